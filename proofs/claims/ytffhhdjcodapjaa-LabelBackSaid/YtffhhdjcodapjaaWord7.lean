/- Words: what is put is taken; the laws WordRises and WordBack; walked. -/
import Derived.Test.YtffhhdjcodapjaaWord6
namespace Go.Proofs.Ytffhhdjcodapjaa
open Go.ChangeShapes Go.WideShapes Go.ChangeAt Go.RowKit
set_option linter.unusedVariables false
set_option linter.unusedSimpArgs false
theorem par_parts {nu x0 f x1 : Int} (n0 : 0 ≤ nu) (n1 : nu ≤ 255) (g0 : 0 ≤ x0) (g1 : x0 ≤ 3) (g2 : 0 ≤ x1) (g3 : x1 ≤ 3) (f0 : 0 ≤ f) (f1 : f < 524288) :
    parW (wV nu x0 f x1) % 256 = nu ∧ fF (parW (wV nu x0 f x1)) = f ∧ parW (wV nu x0 f x1) / 256 % 4 = x0 ∧ parW (wV nu x0 f x1) / 536870912 % 4 = x1 := by
  have e : parW (wV nu x0 f x1) = wV nu x0 f x1 ∨ parW (wV nu x0 f x1) = wV nu x0 f x1 + 2147483648 := by
    have : wV nu x0 f x1 % 2147483648 = wV nu x0 f x1 := by unfold wV; omega
    unfold parW
    rw [this]
    split
    · exact .inl rfl
    · exact .inr rfl
  unfold fF
  rcases e with e | e <;> rw [e] <;> unfold wV <;> omega
theorem put_field {sg : Bool} {bi sc v : Int} (b1 : 1 ≤ bi) (b2 : bi ≤ 18) : sF (tW sg bi sc v % 524288) = tW sg bi sc v ∧ tkB sg bi (tW sg bi sc v % 524288) = true ∧ sF (tW sg bi sc v % 524288) / pwI (18 - bi) = qN sg bi sc v := by
  have tb := tW_bd (sg := sg) (sc := sc) (v := v) b1 b2
  have e : sF (tW sg bi sc v % 524288) = tW sg bi sc v := by unfold sF; split <;> omega
  have up := pwI_bd (b := 18 - bi) (by omega) (by omega)
  have nb := qN_bd (sg := sg) (sc := sc) (v := v) b1 b2
  refine ⟨e, ?_, ?_⟩
  · unfold tkB
    rw [e]
    have z : tW sg bi sc v % pwI (18 - bi) = 0 := Int.mul_emod_left _ _
    rw [decide_eq_true z, Bool.true_and]
    cases sg
    · have : 0 ≤ tW false bi sc v := Int.mul_nonneg (by have := nb.1; unfold loI at this; simpa using this) (by omega)
      rw [decide_eq_true this]
      rfl
    · exact Bool.or_true _
  · rw [e]
    exact Int.mul_ediv_cancel _ (by omega)
theorem wtake_put (nu bi sc : Int) (sg : Bool) (x0 v x1 : Int) (h : lbR nu bi sc = true) (g0 : 0 ≤ x0) (g1 : x0 ≤ 3) (g2 : 0 ≤ x1) (g3 : x1 ≤ 3) (w : World) : Calls Try.prog 54 #[.agg #[.int .i64 nu, .int .i64 bi, .int .i64 sc, .bool sg], .int .u32 (parW (wV nu x0 (tW sg bi sc v % 524288) x1))] w fun e w' => e = .returned (.tuple #[.int .i64 (qN sg bi sc v * sc), .int .i64 x0, .int .i64 x1, .int .i64 0]) ∧ Below w.heap.size w w' := by
  obtain ⟨n0, n1, b1, b2, s1, s2⟩ := lb_ok h
  obtain ⟨p1, p2, p3, p4⟩ := par_parts (f := tW sg bi sc v % 524288) n0 n1 g0 g1 g2 g3 (by omega) (by omega)
  obtain ⟨q1, q2, q3⟩ := put_field (sg := sg) (sc := sc) (v := v) b1 b2
  have pb := parW_bd (wV nu x0 (tW sg bi sc v % 524288) x1)
  have T := wtake_0 nu bi sc sg (parW (wV nu x0 (tW sg bi sc v % 524288) x1)) pb.1 pb.2 h (parW_odd _) p1 (by rw [p2]; exact q2) w
  rw [p2, q3, p3, p4] at T
  exact T
theorem qN_mono {sg : Bool} {bi sc a b : Int} (b1 : 1 ≤ bi) (b2 : bi ≤ 18) (s1 : 1 ≤ sc) (h : a ≤ b) : qN sg bi sc a ≤ qN sg bi sc b := by
  have x : c09 a (-274877906944) 274877906944 ≤ c09 b (-274877906944) 274877906944 := by unfold c09; omega
  have y : qX a sc ≤ qX b sc := by unfold qX; exact Int.ediv_le_ediv (by omega) (Int.add_le_add_right x _)
  have p := pwI_bd (b := bi) (by omega) b2
  have l := loI_bd (sg := sg) b1 b2
  clear x
  unfold qN
  generalize qX a sc = A at *
  generalize qX b sc = B at *
  unfold c09
  split <;> split <;> (try split) <;> (try split) <;> omega
theorem wlr_box (w : World) (nu bi sc : Int) (sg : Bool) (v0 v1 : Int) : ∃ V, V = ((w.alloc (.cells #[.int .i64 nu, .int .i64 bi, .int .i64 sc, .bool sg] 60)).alloc (.cells #[.int .i64 v0, .int .i64 v1] 34)) ∧ Below w.heap.size w V ∧ V.heap.size = w.heap.size + 2 ∧ ∀ u, Below (w.heap.size + 2) V u → u.cell? ⟨w.heap.size, 0, none⟩ = some (.int .i64 nu) ∧ u.cell? ⟨w.heap.size, 1, none⟩ = some (.int .i64 bi) ∧ u.cell? ⟨w.heap.size, 2, none⟩ = some (.int .i64 sc) ∧ u.cell? ⟨w.heap.size, 3, none⟩ = some (.bool sg) ∧ u.cell? ⟨w.heap.size + 1, 0, none⟩ = some (.int .i64 v0) ∧ u.cell? ⟨w.heap.size + 1, 1, none⟩ = some (.int .i64 v1) :=
  ⟨_, rfl, (by repeat (first | exact Below.refl _ _ | assumption | apply Below.drew | apply below_drewN | (refine Below.alloc ?_ (by first | exact Nat.le_refl _ | omega | (simp <;> omega)) _) | (refine Below.setCell ?_ (by first | exact Nat.le_refl _ | omega | (simp <;> omega)) _))), by simp, fun u hu => ⟨(bc hu (by omega)).trans (by go_simp), (bc hu (by omega)).trans (by go_simp), (bc hu (by omega)).trans (by go_simp), (bc hu (by omega)).trans (by go_simp), (bc hu (by omega)).trans (by go_simp), (bc hu (by omega)).trans (by go_simp)⟩⟩
theorem bit_of (m i : Nat) : (m : Int) / 2 ^ i % 2 = if m.testBit i = true then 1 else 0 := by
  have c : ((m / 2 ^ i % 2 : Nat) : Int) = (m : Int) / 2 ^ i % 2 := by simp
  rw [← c, Nat.testBit_eq_decide_div_mod_eq]
  have := Nat.mod_lt (m / 2 ^ i) (show 0 < 2 by decide)
  by_cases z : m / 2 ^ i % 2 = 1
  · simp [z]
  · have z0 : m / 2 ^ i % 2 = 0 := by omega
    simp [z0]
theorem onI_xor (a k : Nat) (j : Nat) : onI ((a ^^^ 2 ^ k : Nat) : Int) j = onI (a : Int) j + (if k < j then 1 - 2 * ((a : Int) / 2 ^ k % 2) else 0) := by
  induction j with
  | zero => simp [onI]
  | succ j ih =>
    show onI _ j + ((a ^^^ 2 ^ k : Nat) : Int) / 2 ^ j % 2 = onI (a : Int) j + (a : Int) / 2 ^ j % 2 + _
    rw [ih, bit_of (a ^^^ 2 ^ k) j, Nat.testBit_xor, Nat.testBit_two_pow, bit_of a j, bit_of a k]
    by_cases e : k = j
    · subst e
      rw [if_neg (show ¬ k < k by omega), if_pos (show k < k + 1 by omega)]
      cases a.testBit k
      · simp
      · simp; omega
    · rw [decide_eq_false e, Bool.xor_false]
      generalize (if a.testBit j = true then (1 : Int) else 0) = B0
      generalize (if a.testBit k = true then (1 : Int) else 0) = B1
      by_cases l : k < j
      · rw [if_pos l, if_pos (show k < j + 1 by omega)]; omega
      · rw [if_neg l, if_neg (show ¬ k < j + 1 by omega)]; omega
theorem xor_is {n : Int} (h0 : 0 ≤ n) (h1 : n ≤ 4294967295) (k : Nat) (hk : k < 32) : bits .xor .u32 n (2 ^ k) = ((n.toNat ^^^ 2 ^ k : Nat) : Int) := by
  obtain ⟨a, rfl⟩ := Int.eq_ofNat_of_zero_le h0
  have hk2 : 2 ^ k < 2 ^ 32 := Nat.pow_lt_pow_right (by decide) hk
  have ha : a < 2 ^ 32 := by omega
  have hx := Nat.xor_lt_two_pow ha hk2
  have c : ((2 : Int) ^ k) = ((2 ^ k : Nat) : Int) := by simp
  show IntKind.u32.wrap ((BitVec.ofInt 32 (a : Int) ^^^ BitVec.ofInt 32 ((2 : Int) ^ k)).toNat : Int) = _
  rw [c, BitVec.ofInt_natCast, BitVec.ofInt_natCast, BitVec.toNat_xor, BitVec.toNat_ofNat, BitVec.toNat_ofNat, Nat.mod_eq_of_lt ha, Nat.mod_eq_of_lt hk2]
  exact wraps_u32 _ (by omega) (by omega)
theorem xor_flip {n : Int} (h0 : 0 ≤ n) (h1 : n ≤ 4294967295) (k : Nat) (hk : k < 32) (ho : odB n = true) : 0 ≤ bits .xor .u32 n (2 ^ k) ∧ bits .xor .u32 n (2 ^ k) ≤ 4294967295 ∧ odB (bits .xor .u32 n (2 ^ k)) = false := by
  refine ⟨(bits_within .xor .u32 n (2 ^ k)).1, (bits_within .xor .u32 n (2 ^ k)).2, ?_⟩
  rw [xor_is h0 h1 k hk]
  apply decide_eq_false
  rw [onI_xor, if_pos (show k < 40 by omega), Int.toNat_of_nonneg h0]
  have := of_decide_eq_true ho
  omega
end Go.Proofs.Ytffhhdjcodapjaa
