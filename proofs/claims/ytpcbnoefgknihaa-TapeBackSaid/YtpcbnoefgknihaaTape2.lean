/- Numbers of the tape: what they are as bytes; walked. -/
import Derived.Test.YtpcbnoefgknihaaTape1
import Derived.Test.YtpcbnoefgknihaaOgb
import Derived.Deep.Cut
import Derived.Deep.CutBlock
namespace Go.Proofs.Ytpcbnoefgknihaa
open Go.ChangeShapes Go.WideShapes Go.ChangeAt Go.RowKit
set_option linter.unusedVariables false
set_option linter.unusedSimpArgs false
def fo (n : Int) : Nat := if n < 0 then (2 * (-1 - n) + 1).toNat else (2 * n).toNat
def vnF : Nat → Nat → List Int
  | 0, u => [(u : Int)]
  | f + 1, u => if u < 128 then [(u : Int)] else ((128 + u % 128 : Nat) : Int) :: vnF f (u / 128)
def vn (u : Nat) : List Int := vnF 9 u
theorem fo_lt {n : Int} (h1 : -9223372036854775808 ≤ n) (h2 : n ≤ 9223372036854775807) : fo n < 18446744073709551616 := by unfold fo; split <;> omega
theorem vnF_len : ∀ (f u : Nat), (vnF f u).length ≤ f + 1 ∧ 1 ≤ (vnF f u).length
  | 0, u => by simp [vnF]
  | f + 1, u => by
    unfold vnF
    split
    · simp
    · have := vnF_len f (u / 128)
      simp only [List.length_cons]
      omega
theorem vnF_small {f u : Nat} (h : u < 128) : vnF f u = [(u : Int)] := by cases f <;> simp [vnF, h]
theorem vnF_big {f u : Nat} (h : ¬ u < 128) : vnF (f + 1) u = ((128 + u % 128 : Nat) : Int) :: vnF f (u / 128) := by simp [vnF, h]
theorem u64_not {x : Nat} (h : x < 18446744073709551616) : bits .xor .u64 (x : Int) 18446744073709551615 = ((18446744073709551615 - x : Nat) : Int) := by
  show IntKind.u64.wrap ((BitVec.ofInt 64 (x : Int) ^^^ BitVec.ofInt 64 18446744073709551615).toNat : Int) = _
  have e : BitVec.ofInt 64 18446744073709551615 = BitVec.allOnes 64 := by decide
  rw [e, BitVec.xor_allOnes, BitVec.toNat_not, BitVec.ofInt_natCast, BitVec.toNat_ofNat, Nat.mod_eq_of_lt (by omega), IntKind.wrap_u64]
  omega
theorem u64_xor0 {x : Nat} (h : x < 18446744073709551616) : bits .xor .u64 (x : Int) 0 = (x : Int) := by
  show IntKind.u64.wrap ((BitVec.ofInt 64 (x : Int) ^^^ BitVec.ofInt 64 0).toNat : Int) = _
  have e : BitVec.ofInt 64 0 = 0#64 := by decide
  rw [e, BitVec.xor_zero, BitVec.ofInt_natCast, BitVec.toNat_ofNat, Nat.mod_eq_of_lt (by omega), IntKind.wrap_u64]
  omega
theorem u8_or : ∀ n : Fin 256, bits .or .u8 (n.val : Int) 128 = ((128 + n.val % 128 : Nat) : Int) := by decide +kernel
theorem zig {n : Int} (h1 : -9223372036854775808 ≤ n) (h2 : n ≤ 9223372036854775807) : bits .xor .u64 (IntKind.u64.wrap (IntKind.u64.wrap n * 2)) (IntKind.u64.wrap (n / 9223372036854775808)) = (fo n : Int) := by
  unfold fo
  by_cases h : n < 0
  · have e1 : IntKind.u64.wrap (n / 9223372036854775808) = 18446744073709551615 := by rw [IntKind.wrap_u64]; omega
    have e2 : IntKind.u64.wrap (IntKind.u64.wrap n * 2) = (((2 * n + 18446744073709551616).toNat : Nat) : Int) := by rw [IntKind.wrap_u64, IntKind.wrap_u64]; omega
    rw [e1, e2, u64_not (by omega), if_pos h]
    omega
  · have e1 : IntKind.u64.wrap (n / 9223372036854775808) = 0 := by rw [IntKind.wrap_u64]; omega
    have e2 : IntKind.u64.wrap (IntKind.u64.wrap n * 2) = (((2 * n).toNat : Nat) : Int) := by rw [IntKind.wrap_u64, IntKind.wrap_u64]; omega
    rw [e1, e2, u64_xor0 (by omega), if_neg h]
theorem u8_or2 {c : Nat} : bits .or .u8 ((c % 256 : Nat) : Int) 128 = ((128 + c % 128 : Nat) : Int) := by
  have := u8_or ⟨c % 256, by omega⟩
  rw [show c % 256 % 128 = c % 128 by omega] at this
  exact this
def P128 (f : Nat) : Nat := 128 ^ (f + 1)
theorem P128_div {f c : Nat} (h : c < P128 (f + 1)) : c / 128 < P128 f := by
  unfold P128 at *
  rw [Nat.pow_succ] at h
  omega
set_option maxRecDepth 100000 in
set_option maxHeartbeats 4000000 in
theorem tappn (B : Nat) (x : Value) (V : List Value) (n : Int) (w : World) (hO : Og 5 B x V w) (hB : B ≤ w.heap.size) (hV : V.length ≤ 1000000) (g1 : -9223372036854775808 ≤ n) (g2 : n ≤ 9223372036854775807) :
    Calls Try.prog 42 #[x, .int .i64 n] w fun e w' => ∃ x', e = .returned x' ∧ Og 5 B x' (V ++ nvals .u8 (vn (fo n))) w' ∧ OgK x w w' ∧ OgN x x' w := by
  have hlt := fo_lt g1 g2
  obtain ⟨c0, hc0⟩ : ∃ c, fo n = c := ⟨_, rfl⟩
  obtain ⟨VN, hVN⟩ : ∃ VN, vn c0 = VN := ⟨_, rfl⟩
  have hfin := Lib.hid (show vn (fo n) = VN by rw [hc0, hVN])
  have hz := zig g1 g2
  rw [hc0] at hz hlt
  replace hz := Lib.hid hz
  replace hVN := Lib.hid hVN
  clear hc0
  replace hO := Lib.hid hO
  have HB := Lib.hid hB
  have HV := Lib.hid hV
  have HL := Lib.hid hlt
  clear hlt g1 g2 hB hV
  go_enter Try.func42, Try.ntmps42
  go_upto_block 0 with (fail)
  rw [hz.out]
  clear hz
  go_wp2_with fail
  go_loopw [0, 5] (fun y c v => ∃ (f k : Nat) (x' : Value) (pre : List Int), f ≤ 9 ∧ y = x' ∧ c = .int .u64 (k : Int) ∧ Hid (k < P128 f) ∧ Hid (k < 18446744073709551616) ∧ Hid (pre ++ vnF f k = VN ∧ pre.length + f = 9) ∧ Hid (Og 5 B x' (V ++ nvals .u8 pre) v) ∧ Hid (OgK x w v) ∧ Hid (OgN x x' w)) (fun _ c _ => (intOf c).toNat)
  case atStart => exact ⟨9, c0, x, [], by omega, rfl, rfl, Lib.hid (by have := HL.out; unfold P128; omega), HL, Lib.hid ⟨hVN.out, rfl⟩, Lib.hid (by simpa [nvals] using hO.out), Lib.hid (OgK.refl _ _), Lib.hid (OgN.refl _ _)⟩
  case round =>
    obtain ⟨f, k, x', pre, hf, rfl, rfl, hk, hk6, hp, hO2, hK2, hN2⟩ := hrel
    clear hO HL
    generalize wr = v at *
    have HB2 := Lib.hid (show B ≤ v.heap.size from Nat.le_trans HB.out hK2.out.size)
    have LEN := Lib.hid (show (V ++ nvals .u8 pre).length + 1 ≤ 1000100 by have := HV.out; have := hp.out.2; rw [List.length_append, nvals_len]; omega)
    by_cases hge : 128 ≤ k
    · obtain ⟨f', rfl⟩ : ∃ f', f = f' + 1 := by
        cases f with
        | zero => have := hk.out; unfold P128 at this; omega
        | succ f' => exact ⟨f', rfl⟩
      have j1 : (128 : Int) ≤ (k : Int) := by omega
      have j2 : IntKind.u8.wrap (k : Int) = ((k % 256 : Nat) : Int) := by rw [IntKind.wrap_u8]; omega
      have j3 := u8_or2 (c := k)
      obtain ⟨q, eq⟩ : ∃ q : Nat, q = k % 256 := ⟨_, rfl⟩
      obtain ⟨r, er⟩ : ∃ r : Nat, r = 128 + k % 128 := ⟨_, rfl⟩
      obtain ⟨k2, ek⟩ : ∃ k2 : Nat, k2 = k / 128 := ⟨_, rfl⟩
      have j4 : (k : Int) / 128 = (k2 : Int) := by omega
      have hk2 := Lib.hid (show k2 < P128 f' by rw [ek]; exact P128_div hk.out)
      have hk26 := Lib.hid (show k2 < 18446744073709551616 by have := hk6.out; omega)
      have hp2 := Lib.hid (show (pre ++ [(r : Int)]) ++ vnF f' k2 = VN ∧ (pre ++ [(r : Int)]).length + f' = 9 from ⟨by rw [← hp.out.1, vnF_big (by omega), er, ek]; simp, by have := hp.out.2; simp; omega⟩)
      have hlt2 := Lib.hid (show k2 < k by omega)
      rw [← eq] at j2 j3
      rw [← er] at j3
      clear eq er ek hge hk hp
      have hA := Lib.hid ((Below.refl v.heap.size v).alloc (Nat.le_refl _) (.cells #[.int .u8 (r : Int)] 5))
      have hO3 := Lib.hid (hO2.out.bel hA.out)
      have hz3 := Lib.hid (show B ≤ (v.alloc (.cells #[.int .u8 (r : Int)] 5)).heap.size from by have := HB2.out; simp; omega)
      have SR := Lib.hid (src_new 22 5 5 Try.underlying22 v [.int .u8 (r : Int)] (fun u hu => by simp at hu; subst hu; rfl))
      clear hO2
      go_upto_region 4 with (first | (at_builtin; refine wpList_append_og _ rfl (.tmp 15) (.tmp 19) 22 22 rfl 5 (.int .u8 0) 1 Try.underlying22 (by kernel_rfl) rfl B u0 _ rfl hO3.out hz3.out _ 1 _ rfl SR.out (by have := LEN.out; unfold maxLen; omega) (by have := LEN.out; omega) ?_; intro x2 w5 hO5 hK5 hN5))
      have hK6 := Lib.hid (hK2.out.trans hN2.out (OgK.bl hA.out hK5))
      have hN6 := Lib.hid (hN2.out.trans (hN5.bl hA.out.size) hK2.out.size)
      have hO6 := Lib.hid (show Og 5 B x2 (V ++ nvals .u8 (pre ++ [(r : Int)])) w5 by rw [nvals_app, ← List.append_assoc]; exact hO5)
      clear hO5 hK5 hN5 hA hO3 hz3 SR hK2 hN2 HB2 LEN
      go_wp2
      go_roundw
      case rel => exact ⟨f', k2, x2, _, by omega, rfl, by first | rfl | go_num, hk2, hk26, hp2, hO6, hK6, hN6⟩
      case measure => have := hlt2.out; simp [intOf]; omega
    · have j1 : ¬ (128 : Int) ≤ (k : Int) := by omega
      have j2 : IntKind.u8.wrap (k : Int) = (k : Int) := by rw [IntKind.wrap_u8]; omega
      have ep : pre ++ [(k : Int)] = VN := by rw [← hp.out.1, vnF_small (by omega)]
      have hA := Lib.hid ((Below.refl v.heap.size v).alloc (Nat.le_refl _) (.cells #[.int .u8 (k : Int)] 5))
      have hO3 := Lib.hid (hO2.out.bel hA.out)
      have hz3 := Lib.hid (show B ≤ (v.alloc (.cells #[.int .u8 (k : Int)] 5)).heap.size from by have := HB2.out; simp; omega)
      have SR := Lib.hid (src_new 22 5 5 Try.underlying22 v [.int .u8 (k : Int)] (fun u hu => by simp at hu; subst hu; rfl))
      replace ep := Lib.hid ep
      clear hO2 hge
      go_upto_region 5 with (fail)
      go_wp2_with (first | (at_builtin; refine wpList_append_og _ rfl (.tmp 23) (.tmp 26) 22 22 rfl 5 (.int .u8 0) 1 Try.underlying22 (by kernel_rfl) rfl B u0 _ rfl hO3.out hz3.out _ 1 _ rfl SR.out (by have := LEN.out; unfold maxLen; omega) (by have := LEN.out; omega) ?_; intro x2 w5 hO5 hK5 hN5))
      have hK6 := Lib.hid (hK2.out.trans hN2.out (OgK.bl hA.out hK5))
      have hN6 := Lib.hid (hN2.out.trans (hN5.bl hA.out.size) hK2.out.size)
      have hO6 := Lib.hid (show Og 5 B x2 (V ++ nvals .u8 VN) w5 by rw [← ep.out, nvals_app, ← List.append_assoc]; exact hO5)
      clear hO5 hK5 hN5 hA hO3 hz3 SR hK2 hN2 HB2 LEN
      try go_wp2
      go_ret
      exact ⟨x2, rfl, by rw [hfin.out]; exact hO6.out, hK6.out, hN6.out⟩
end Go.Proofs.Ytpcbnoefgknihaa
