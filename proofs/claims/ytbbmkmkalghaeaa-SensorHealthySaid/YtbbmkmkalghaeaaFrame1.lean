/- Frames as numbers: the total of bytes, what eight bytes say, a frame's bytes. -/
import Derived.Test.YtbbmkmkalghaeaaNum
import Derived.Lib.EndianBits
namespace Go.Proofs.Ytbbmkmkalghaeaa
open Go.ChangeShapes Go.WideShapes Go.ChangeAt Go.RowKit
set_option linter.unusedVariables false
set_option linter.unusedSimpArgs false

/-- The total of bytes. -/
def tot (l : List Int) : Int := l.foldl (fun n b => (n + b) % 256) 0
theorem tot_snoc {l : List Int} {k : Nat} (h : k < l.length) : tot (l.take (k + 1)) = (tot (l.take k) + l.getD k 0) % 256 := by
  unfold tot
  rw [take_snoc h, List.foldl_append]
  rfl
theorem tot_append (l : List Int) (b : Int) : tot (l ++ [b]) = (tot l + b) % 256 := by
  unfold tot
  rw [List.foldl_append]
  rfl
theorem tot_from (l : List Int) : ∀ n : Int, 0 ≤ n ∧ n < 256 → 0 ≤ l.foldl (fun n b => (n + b) % 256) n ∧ l.foldl (fun n b => (n + b) % 256) n < 256 := by
  induction l with
  | nil => intro n h; exact h
  | cons b l ih => intro n h; exact ih ((n + b) % 256) (by omega)
theorem tot_bd (l : List Int) : 0 ≤ tot l ∧ tot l < 256 := tot_from l 0 (by omega)
theorem tot_fold (l : List Int) : ∀ n : Int, 0 ≤ n ∧ n < 256 → l.foldl (fun n b => (n + b) % 256) n = (n + l.sum) % 256 := by
  induction l with
  | nil => intro n h; simp; omega
  | cons b l ih =>
    intro n h
    show l.foldl (fun n b => (n + b) % 256) ((n + b) % 256) = _
    rw [ih _ (by omega), List.sum_cons]
    omega
theorem tot_sum (l : List Int) : tot l = l.sum % 256 := by
  unfold tot
  rw [tot_fold l 0 (by omega), Int.zero_add]
theorem sum_set (l : List Int) : ∀ (k : Nat) (x : Int), k < l.length → (l.set k x).sum = l.sum - l.getD k 0 + x := by
  induction l with
  | nil => intro k x h; simp at h
  | cons b l ih =>
    intro k x h
    cases k with
    | zero => simp; omega
    | succ k =>
      have := ih k x (by simpa using h)
      simp [List.getD] at this ⊢
      omega
/-- One byte that is another one: another total. -/
theorem tot_set {l : List Int} {k : Nat} {x : Int} (hk : k < l.length) (h0 : 0 ≤ l.getD k 0 ∧ l.getD k 0 < 256) (hx : 0 ≤ x ∧ x < 256) (hne : x ≠ l.getD k 0) : tot (l.set k x) ≠ tot l := by
  rw [tot_sum, tot_sum, sum_set l k x hk]
  generalize l.getD k 0 = y at *
  omega

/-- All are bytes. -/
def BYT (l : List Int) : Prop := ∀ i, i < l.length → 0 ≤ l.getD i 0 ∧ l.getD i 0 < 256
theorem u8_bd {n : Int} (h : (Lit.int .u8 n).wf = true) : 0 ≤ n ∧ n < 256 := by
  simp [Lit.wf, IntKind.min, IntKind.max, IntKind.signed, IntKind.bits] at h
  omega
theorem byt_of {l : List Int} (h : ∀ n ∈ l, (Lit.int .u8 n).wf = true) : BYT l := fun i hi => u8_bd (h _ (by
  rw [show l.getD i 0 = l[i] from by simp [List.getD, hi]]
  exact List.getElem_mem hi))
theorem BYT.sub {l : List Int} (h : BYT l) (i m : Nat) : BYT ((l.drop i).take m) := by
  intro k hk
  have hk' : k < m ∧ k < l.length - i := by simp at hk; omega
  have e : ((l.drop i).take m).getD k 0 = l.getD (i + k) 0 := by
    simp [List.getD, List.getElem?_take, hk'.1, List.getElem?_drop]
  rw [e]
  exact h _ (by omega)

def s8 (b : Int) : Int := if 127 < b then b - 256 else b
def s24 (v : Int) : Int := if 8388607 < v then v - 16777216 else v
theorem wrap_i8 (b : Int) (h : 0 ≤ b ∧ b < 256) : IntKind.i8.wrap b = s8 b := by
  unfold s8
  simp [IntKind.wrap, IntKind.bits, IntKind.signed]
  split <;> split <;> omega
theorem or_i64 (i : Nat) (hi : i ≤ 62) (x y : Int) (hx1 : -4611686018427387904 ≤ x) (hx2 : x ≤ 4611686018427387904) (hx : (2 ^ i : Nat) ∣ (x % 18446744073709551616).toNat) (hy : 0 ≤ y ∧ y < (2 ^ i : Nat)) : bits .or .i64 x y = x + y := by
  have hp : 2 ^ i ≤ 2 ^ 62 := Nat.pow_le_pow_right (by decide) hi
  have hy2 : y < 4611686018427387904 := by
    have : ((2 ^ i : Nat) : Int) ≤ ((2 ^ 62 : Nat) : Int) := by exact_mod_cast hp
    have e : ((2 ^ 62 : Nat) : Int) = 4611686018427387904 := by decide
    omega
  unfold bits
  show IntKind.i64.wrap ((BitVec.ofInt 64 x ||| BitVec.ofInt 64 y).toNat : Int) = x + y
  rw [BitVec.toNat_or, BitVec.toNat_ofInt, BitVec.toNat_ofInt]
  have e64 : (2 : Int) ^ 64 = 18446744073709551616 := by decide
  have e64' : ((2 ^ 64 : Nat) : Int) = 18446744073709551616 := by decide
  rw [e64']
  have hyy : y % 18446744073709551616 = y := by omega
  rw [hyy]
  obtain ⟨q, hq⟩ := hx
  have hylt : y.toNat < 2 ^ i := by omega
  rw [hq, ← Nat.two_pow_add_eq_or_of_lt hylt q, ← hq, IntKind.wrap_i64]
  omega
theorem or8 (x y : Int) (hx1 : -1000000000 ≤ x) (hx2 : x ≤ 1000000000) (hx : x % 256 = 0) (hy : 0 ≤ y ∧ y < 256) : bits .or .i64 x y = x + y :=
  or_i64 8 (by omega) x y (by omega) (by omega) (by
    refine Nat.dvd_of_mod_eq_zero ?_
    show (x % 18446744073709551616).toNat % 256 = 0
    omega) hy
theorem or16 (x y : Int) (hx1 : -1000000000 ≤ x) (hx2 : x ≤ 1000000000) (hx : x % 65536 = 0) (hy : 0 ≤ y ∧ y < 65536) : bits .or .i64 x y = x + y :=
  or_i64 16 (by omega) x y (by omega) (by omega) (by
    refine Nat.dvd_of_mod_eq_zero ?_
    show (x % 18446744073709551616).toNat % 65536 = 0
    omega) hy
/-- The value of three bytes, as the program puts it together. -/
theorem s24_eq (a b c : Int) (ha : 0 ≤ a ∧ a < 256) (hb : 0 ≤ b ∧ b < 256) (hc : 0 ≤ c ∧ c < 256) : bits .or .i64 (bits .or .i64 (s8 a * 65536) (b * 256)) c = s24 (a * 65536 + b * 256 + c) := by
  have h8 : -128 ≤ s8 a ∧ s8 a ≤ 127 := by unfold s8; omega
  rw [or16 (s8 a * 65536) (b * 256) (by omega) (by omega) (by omega) (by omega), or8 _ c (by omega) (by omega) (by omega) hc]
  unfold s8 s24
  omega

/-- May eight bytes be a frame? Why not? -/
def tkE (l : List Int) : Int := if l.length = 8 then (if l.getD 0 0 = 165 then (if tot l = 0 then 0 else 4) else 3) else 12
/-- What eight bytes say; nothing if they are no frame. -/
def tkI (l : List Int) : Int := if tkE l = 0 then l.getD 1 0 else 0
def tkS (l : List Int) : Int := if tkE l = 0 then l.getD 2 0 else 0
def tkV (l : List Int) : Int := if tkE l = 0 then s24 (l.getD 3 0 * 65536 + l.getD 4 0 * 256 + l.getD 5 0) else 0
def tkT (l : List Int) : Int := if tkE l = 0 then s8 (l.getD 6 0) else 0
theorem tkE_ok {l : List Int} (h : tkE l = 0) : l.length = 8 ∧ l.getD 0 0 = 165 ∧ tot l = 0 := by
  unfold tkE at h
  split at h
  · split at h
    · split at h
      · exact ⟨by assumption, by assumption, by assumption⟩
      · omega
    · omega
  · omega
/-- May a frame be? -/
def frB (i s v t : Int) : Bool := decide (0 ≤ i) && (decide (i ≤ 255) && (decide (0 ≤ s) && (decide (s ≤ 255) && (decide (-8388608 ≤ v) && (decide (v ≤ 8388607) && (decide (-128 ≤ t) && decide (t ≤ 127)))))))
theorem frB_at {i s v t : Int} (h : frB i s v t = true) : 0 ≤ i ∧ i ≤ 255 ∧ 0 ≤ s ∧ s ≤ 255 ∧ -8388608 ≤ v ∧ v ≤ 8388607 ∧ -128 ≤ t ∧ t ≤ 127 := by
  unfold frB at h
  simp only [Bool.and_eq_true, decide_eq_true_eq] at h
  exact h
theorem frB_mk {i s v t : Int} (h : 0 ≤ i ∧ i ≤ 255 ∧ 0 ≤ s ∧ s ≤ 255 ∧ -8388608 ≤ v ∧ v ≤ 8388607 ∧ -128 ≤ t ∧ t ≤ 127) : frB i s v t = true := by
  unfold frB
  simp only [Bool.and_eq_true, decide_eq_true_eq]
  exact h
/-- The first seven bytes of a frame, and all of them. -/
def puH (i s v t : Int) : List Int := [165, i, s, (v / 65536) % 256, (v / 256) % 256, v % 256, t % 256]
def puL (i s v t : Int) : List Int := puH i s v t ++ [(256 - tot (puH i s v t)) % 256]
theorem puL_len (i s v t : Int) : (puL i s v t).length = 8 := rfl
theorem puL_tot (i s v t : Int) : tot (puL i s v t) = 0 := by
  unfold puL
  rw [tot_append]
  have := tot_bd (puH i s v t)
  omega
theorem puL_ok (i s v t : Int) : tkE (puL i s v t) = 0 := by
  unfold tkE
  rw [if_pos (puL_len i s v t), if_pos (show (puL i s v t).getD 0 0 = 165 from rfl), if_pos (puL_tot i s v t)]
theorem puL_byt {i s v t : Int} (h : frB i s v t = true) : BYT (puL i s v t) := by
  obtain ⟨a, b, c, d, _⟩ := frB_at h
  intro k hk
  have hk8 : k < 8 := hk
  rcases (show k = 0 ∨ k = 1 ∨ k = 2 ∨ k = 3 ∨ k = 4 ∨ k = 5 ∨ k = 6 ∨ k = 7 by omega) with rfl | rfl | rfl | rfl | rfl | rfl | rfl | rfl
  · show (0 : Int) ≤ 165 ∧ (165 : Int) < 256; omega
  · show 0 ≤ i ∧ i < 256; omega
  · show 0 ≤ s ∧ s < 256; omega
  · show 0 ≤ (v / 65536) % 256 ∧ (v / 65536) % 256 < 256; omega
  · show 0 ≤ (v / 256) % 256 ∧ (v / 256) % 256 < 256; omega
  · show 0 ≤ v % 256 ∧ v % 256 < 256; omega
  · show 0 ≤ t % 256 ∧ t % 256 < 256; omega
  · show 0 ≤ (256 - tot (puH i s v t)) % 256 ∧ (256 - tot (puH i s v t)) % 256 < 256; omega
/-- What is put is taken as it was. -/
theorem puL_back {i s v t : Int} (h : frB i s v t = true) : tkI (puL i s v t) = i ∧ tkS (puL i s v t) = s ∧ tkV (puL i s v t) = v ∧ tkT (puL i s v t) = t := by
  obtain ⟨a, b, c, d, e, f, g, k⟩ := frB_at h
  unfold tkI tkS tkV tkT
  rw [puL_ok]
  refine ⟨rfl, rfl, ?_, ?_⟩
  · show s24 ((v / 65536) % 256 * 65536 + (v / 256) % 256 * 256 + v % 256) = v
    unfold s24
    omega
  · show s8 (t % 256) = t
    unfold s8
    omega
theorem tk_right {l : List Int} (hb : BYT l) (h : tkE l = 0) : frB (tkI l) (tkS l) (tkV l) (tkT l) = true := by
  obtain ⟨h8, _, _⟩ := tkE_ok h
  have b1 := hb 1 (by omega)
  have b2 := hb 2 (by omega)
  have b3 := hb 3 (by omega)
  have b4 := hb 4 (by omega)
  have b5 := hb 5 (by omega)
  have b6 := hb 6 (by omega)
  unfold tkI tkS tkV tkT
  simp only [if_pos h]
  refine frB_mk ?_
  unfold s24 s8
  omega
/-- What is taken is put as these bytes. -/
theorem tk_back {l : List Int} (hb : BYT l) (h : tkE l = 0) : puL (tkI l) (tkS l) (tkV l) (tkT l) = l := by
  obtain ⟨h8, h0, ht⟩ := tkE_ok h
  have b3 := hb 3 (by omega)
  have b4 := hb 4 (by omega)
  have b5 := hb 5 (by omega)
  have b6 := hb 6 (by omega)
  have b7 := hb 7 (by omega)
  unfold tkI tkS tkV tkT
  simp only [if_pos h]
  clear h hb
  match l, h8 with
  | [x0, x1, x2, x3, x4, x5, x6, x7], _ =>
    simp only [List.getD_cons_zero, List.getD_cons_succ] at h0 b3 b4 b5 b6 b7 ⊢
    subst h0
    have e : puH x1 x2 (s24 (x3 * 65536 + x4 * 256 + x5)) (s8 x6) = [165, x1, x2, x3, x4, x5, x6] := by
      unfold puH
      rw [show s24 (x3 * 65536 + x4 * 256 + x5) / 65536 % 256 = x3 by unfold s24; omega, show s24 (x3 * 65536 + x4 * 256 + x5) / 256 % 256 = x4 by unfold s24; omega, show s24 (x3 * 65536 + x4 * 256 + x5) % 256 = x5 by unfold s24; omega, show s8 x6 % 256 = x6 by unfold s8; omega]
    unfold puL
    rw [e]
    have ht2 : (tot [165, x1, x2, x3, x4, x5, x6] + x7) % 256 = 0 := by
      rw [← tot_append]
      exact ht
    have := tot_bd [165, x1, x2, x3, x4, x5, x6]
    generalize tot [165, x1, x2, x3, x4, x5, x6] = n at *
    rw [show (256 - n) % 256 = x7 by omega]
    rfl
end Go.Proofs.Ytbbmkmkalghaeaa
