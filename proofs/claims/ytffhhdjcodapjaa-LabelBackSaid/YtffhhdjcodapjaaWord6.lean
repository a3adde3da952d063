/- Words: a word taken; the law WordTakes; walked. -/
import Derived.Test.YtffhhdjcodapjaaWord5
namespace Go.Proofs.Ytffhhdjcodapjaa
open Go.ChangeShapes Go.WideShapes Go.ChangeAt Go.RowKit
set_option linter.unusedVariables false
set_option linter.unusedSimpArgs false
theorem four_tmp {fn : Func} {a b c d : Tmp} (h : fn.results = #[.tmp a, .tmp b, .tmp c, .tmp d]) (tmps : Array Value) (P : Program) (w : World) :
    (results fn tmps).run P w = .ok (.tuple #[tmps.getD a undef, tmps.getD b undef, tmps.getD c undef, tmps.getD d undef]) w := by
  simp [results, h]
theorem i64_ones : ∀ i : Fin 18, (BitVec.ofInt 64 ((2 : Int) ^ i.val - 1)).toNat = 2 ^ i.val - 1 := by decide +kernel
theorem i64_mask (x : Int) (i : Nat) (hi : i < 18) : bits .and .i64 x (2 ^ i - 1) = x % 2 ^ i := by
  have hb := i64_ones ⟨i, hi⟩
  have hp := w2b i (by omega)
  have e : (((x % 2 ^ 64).toNat % 2 ^ i : Nat) : Int) = x % 2 ^ i := by
    rw [Int.natCast_emod, Int.toNat_of_nonneg (Int.emod_nonneg _ (by decide))]
    rw [show (((2 : Nat) ^ i : Nat) : Int) = (2 : Int) ^ i by simp]
    exact Int.emod_emod_of_dvd x (⟨2 ^ (64 - i), by rw [← Int.pow_add]; congr 1; omega⟩)
  show IntKind.i64.wrap ((BitVec.ofInt 64 x &&& BitVec.ofInt 64 ((2 : Int) ^ i - 1)).toNat : Int) = _
  rw [BitVec.toNat_and, hb, Nat.and_two_pow_sub_one_eq_mod, BitVec.toNat_ofInt]
  have e' : (((x % ((2 ^ 64 : Nat) : Int)).toNat % 2 ^ i : Nat) : Int) = x % 2 ^ i := e
  rw [e']
  have := Int.emod_nonneg x (show (2 : Int) ^ i ≠ 0 by omega)
  have := Int.emod_lt_of_pos x (show (0 : Int) < 2 ^ i by omega)
  exact IntWalk.i64_in _ ⟨by omega, by omega⟩
/-- The field with its sign, whether it is one. -/
def sF (f : Int) : Int := if 262144 ≤ f then f - 524288 else f
def tkB (sg : Bool) (bi f : Int) : Bool := decide (sF f % pwI (18 - bi) = 0) && (decide (0 ≤ sF f) || sg)
theorem sF_bd {f : Int} (h0 : 0 ≤ f) (h1 : f < 524288) : -262144 ≤ sF f ∧ sF f < 262144 := by unfold sF; split <;> omega
theorem pw_dvd {bi : Int} (h1 : 1 ≤ bi) (h2 : bi ≤ 18) : pwI (18 - bi) ∣ 524288 := ⟨2 * pwI bi, by have := pw_mul h1 h2; rw [Int.mul_comm] at this; rw [Int.mul_left_comm, this]; decide⟩
theorem sF_mod {bi f : Int} (h1 : 1 ≤ bi) (h2 : bi ≤ 18) : f % pwI (18 - bi) = sF f % pwI (18 - bi) := by
  unfold sF
  split
  · obtain ⟨k, hk⟩ := pw_dvd h1 h2
    rw [hk, Int.sub_mul_emod_self_left]
  · rfl
set_option maxRecDepth 100000 in
set_option maxHeartbeats 8000000 in
theorem wunf_w (nu bi sc : Int) (sg : Bool) (f : Int) (h1 : 1 ≤ bi) (h2 : bi ≤ 18) (f0 : 0 ≤ f) (f1 : f < 524288) (ht : sF f % pwI (18 - bi) ≠ 0) (w : World) : Calls Try.prog 68 #[.agg #[.int .i64 nu, .int .i64 bi, .int .i64 sc, .bool sg], .int .u32 f] w fun e w' => e = .returned (.tuple #[.int .i64 0, .bool false]) ∧ Below w.heap.size w w' := by
  obtain ⟨V, eV, hb0, hz, hcs⟩ := wcb_box w nu bi sc sg
  have SP := Lib.hid (fun u => wspare nu bi sc sg h1 h2 u)
  have sb := sF_bd f0 f1
  have hp := pwI_bd (b := 18 - bi) (by omega) (by omega)
  have mb := Int.emod_nonneg (sF f) (show pwI (18 - bi) ≠ 0 by omega)
  have hm : min (18 - bi).toNat 64 = (18 - bi).toNat := by omega
  have em : bits .and .i64 (sF f) (pwI (18 - bi) - 1) = sF f % pwI (18 - bi) := i64_mask (sF f) (18 - bi).toNat (by omega)
  have e1 : wrap64 (2 ^ (18 - bi).toNat) = pwI (18 - bi) := by show wrap64 (pwI (18 - bi)) = _; unfold wrap64; omega
  have e2 : sF f / 2 ^ (18 - bi).toNat = sF f / pwI (18 - bi) := rfl
  have e3 : IntKind.i32.wrap (f * 8192) = sF f * 8192 := by rw [IntKind.wrap_i32]; unfold sF; split <;> omega
  have E2 := Lib.hid e2
  clear e2
  generalize sF f / pwI (18 - bi) = Q at *
  generalize sF f % pwI (18 - bi) = M at *
  have e4 : sF f * 8192 / 8192 = sF f := Int.mul_ediv_cancel _ (by decide)
  generalize sF f = s at *
  generalize pwI (18 - bi) = U at *
  replace hb0 := Lib.hid hb0
  replace hz := Lib.hid hz
  replace hcs := Lib.hid hcs
  replace eV := Lib.hid eV
  go_enter Try.func68, Try.ntmps68
  go_wp2_with fail
  rw [← eV.out]
  obtain ⟨k0, k1, k2, k3⟩ := hcs.out _ (Below.refl _ _)
  go_wp2_with fail
  refine (SP.out _).mono ?_
  rintro e w1 ⟨rfl, hb1⟩
  have hb1 := (Below.refl (w.heap.size + 1) V).trans (hb1.mono (Nat.le_of_eq hz.out.symm))
  obtain ⟨k0, k1, k2, k3⟩ := hcs.out _ hb1
  go_wp2
  go_ret2
  exact ⟨rfl, hb0.out.trans (hb1.mono (by omega))⟩
set_option maxRecDepth 100000 in
set_option maxHeartbeats 8000000 in
theorem wunf_n (nu bi sc : Int) (sg : Bool) (f : Int) (h1 : 1 ≤ bi) (h2 : bi ≤ 18) (f0 : 0 ≤ f) (f1 : f < 524288) (ht : sF f % pwI (18 - bi) = 0) (hn : sF f < 0) (hs : sg = false) (w : World) : Calls Try.prog 68 #[.agg #[.int .i64 nu, .int .i64 bi, .int .i64 sc, .bool sg], .int .u32 f] w fun e w' => e = .returned (.tuple #[.int .i64 0, .bool false]) ∧ Below w.heap.size w w' := by
  subst hs
  obtain ⟨V, eV, hb0, hz, hcs⟩ := wcb_box w nu bi sc false
  have SP := Lib.hid (fun u => wspare nu bi sc false h1 h2 u)
  have sb := sF_bd f0 f1
  have hp := pwI_bd (b := 18 - bi) (by omega) (by omega)
  have mb := Int.emod_nonneg (sF f) (show pwI (18 - bi) ≠ 0 by omega)
  have hm : min (18 - bi).toNat 64 = (18 - bi).toNat := by omega
  have em : bits .and .i64 (sF f) (pwI (18 - bi) - 1) = sF f % pwI (18 - bi) := i64_mask (sF f) (18 - bi).toNat (by omega)
  have e1 : wrap64 (2 ^ (18 - bi).toNat) = pwI (18 - bi) := by show wrap64 (pwI (18 - bi)) = _; unfold wrap64; omega
  have e2 : sF f / 2 ^ (18 - bi).toNat = sF f / pwI (18 - bi) := rfl
  have e3 : IntKind.i32.wrap (f * 8192) = sF f * 8192 := by rw [IntKind.wrap_i32]; unfold sF; split <;> omega
  have E2 := Lib.hid e2
  clear e2
  generalize sF f / pwI (18 - bi) = Q at *
  generalize sF f % pwI (18 - bi) = M at *
  subst ht
  have e4 : sF f * 8192 / 8192 = sF f := Int.mul_ediv_cancel _ (by decide)
  generalize sF f = s at *
  generalize pwI (18 - bi) = U at *
  replace hb0 := Lib.hid hb0
  replace hz := Lib.hid hz
  replace hcs := Lib.hid hcs
  replace eV := Lib.hid eV
  go_enter Try.func68, Try.ntmps68
  go_wp2_with fail
  rw [← eV.out]
  obtain ⟨k0, k1, k2, k3⟩ := hcs.out _ (Below.refl _ _)
  go_wp2_with fail
  refine (SP.out _).mono ?_
  rintro e w1 ⟨rfl, hb1⟩
  have hb1 := (Below.refl (w.heap.size + 1) V).trans (hb1.mono (Nat.le_of_eq hz.out.symm))
  obtain ⟨k0, k1, k2, k3⟩ := hcs.out _ hb1
  go_wp2
  go_ret2
  exact ⟨rfl, hb0.out.trans (hb1.mono (by omega))⟩
set_option maxRecDepth 100000 in
set_option maxHeartbeats 8000000 in
theorem wunf_p (nu bi sc : Int) (sg : Bool) (f : Int) (h1 : 1 ≤ bi) (h2 : bi ≤ 18) (f0 : 0 ≤ f) (f1 : f < 524288) (ht : sF f % pwI (18 - bi) = 0) (hn : 0 ≤ sF f) (w : World) : Calls Try.prog 68 #[.agg #[.int .i64 nu, .int .i64 bi, .int .i64 sc, .bool sg], .int .u32 f] w fun e w' => e = .returned (.tuple #[.int .i64 (sF f / pwI (18 - bi)), .bool true]) ∧ Below w.heap.size w w' := by
  obtain ⟨V, eV, hb0, hz, hcs⟩ := wcb_box w nu bi sc sg
  have SP := Lib.hid (fun u => wspare nu bi sc sg h1 h2 u)
  have sb := sF_bd f0 f1
  have hp := pwI_bd (b := 18 - bi) (by omega) (by omega)
  have mb := Int.emod_nonneg (sF f) (show pwI (18 - bi) ≠ 0 by omega)
  have hm : min (18 - bi).toNat 64 = (18 - bi).toNat := by omega
  have em : bits .and .i64 (sF f) (pwI (18 - bi) - 1) = sF f % pwI (18 - bi) := i64_mask (sF f) (18 - bi).toNat (by omega)
  have e1 : wrap64 (2 ^ (18 - bi).toNat) = pwI (18 - bi) := by show wrap64 (pwI (18 - bi)) = _; unfold wrap64; omega
  have e2 : sF f / 2 ^ (18 - bi).toNat = sF f / pwI (18 - bi) := rfl
  have e3 : IntKind.i32.wrap (f * 8192) = sF f * 8192 := by rw [IntKind.wrap_i32]; unfold sF; split <;> omega
  have E2 := Lib.hid e2
  clear e2
  generalize sF f / pwI (18 - bi) = Q at *
  generalize sF f % pwI (18 - bi) = M at *
  subst ht
  have e4 : sF f * 8192 / 8192 = sF f := Int.mul_ediv_cancel _ (by decide)
  generalize sF f = s at *
  generalize pwI (18 - bi) = U at *
  replace hb0 := Lib.hid hb0
  replace hz := Lib.hid hz
  replace hcs := Lib.hid hcs
  replace eV := Lib.hid eV
  go_enter Try.func68, Try.ntmps68
  go_wp2_with fail
  rw [← eV.out]
  obtain ⟨k0, k1, k2, k3⟩ := hcs.out _ (Below.refl _ _)
  go_wp2_with fail
  refine (SP.out _).mono ?_
  rintro e w1 ⟨rfl, hb1⟩
  have hb1 := (Below.refl (w.heap.size + 1) V).trans (hb1.mono (Nat.le_of_eq hz.out.symm))
  obtain ⟨k0, k1, k2, k3⟩ := hcs.out _ hb1
  go_wp2_with fail
  refine (SP.out _).mono ?_
  rintro e w2 ⟨rfl, hb2⟩
  have hb2 := hb1.trans (hb2.mono (by have := hb1.size; have := hz.out; omega))
  clear hb1
  obtain ⟨k0, k1, k2, k3⟩ := hcs.out _ hb2
  go_wp2
  go_ret2
  exact ⟨by first | rfl | (rw [E2.out]; rfl), hb0.out.trans (hb2.mono (by omega))⟩
set_option maxRecDepth 100000 in
set_option maxHeartbeats 8000000 in
theorem wunf_s (nu bi sc : Int) (sg : Bool) (f : Int) (h1 : 1 ≤ bi) (h2 : bi ≤ 18) (f0 : 0 ≤ f) (f1 : f < 524288) (ht : sF f % pwI (18 - bi) = 0) (hn : sF f < 0) (hs : sg = true) (w : World) : Calls Try.prog 68 #[.agg #[.int .i64 nu, .int .i64 bi, .int .i64 sc, .bool sg], .int .u32 f] w fun e w' => e = .returned (.tuple #[.int .i64 (sF f / pwI (18 - bi)), .bool true]) ∧ Below w.heap.size w w' := by
  subst hs
  obtain ⟨V, eV, hb0, hz, hcs⟩ := wcb_box w nu bi sc true
  have SP := Lib.hid (fun u => wspare nu bi sc true h1 h2 u)
  have sb := sF_bd f0 f1
  have hp := pwI_bd (b := 18 - bi) (by omega) (by omega)
  have mb := Int.emod_nonneg (sF f) (show pwI (18 - bi) ≠ 0 by omega)
  have hm : min (18 - bi).toNat 64 = (18 - bi).toNat := by omega
  have em : bits .and .i64 (sF f) (pwI (18 - bi) - 1) = sF f % pwI (18 - bi) := i64_mask (sF f) (18 - bi).toNat (by omega)
  have e1 : wrap64 (2 ^ (18 - bi).toNat) = pwI (18 - bi) := by show wrap64 (pwI (18 - bi)) = _; unfold wrap64; omega
  have e2 : sF f / 2 ^ (18 - bi).toNat = sF f / pwI (18 - bi) := rfl
  have e3 : IntKind.i32.wrap (f * 8192) = sF f * 8192 := by rw [IntKind.wrap_i32]; unfold sF; split <;> omega
  have E2 := Lib.hid e2
  clear e2
  generalize sF f / pwI (18 - bi) = Q at *
  generalize sF f % pwI (18 - bi) = M at *
  subst ht
  have e4 : sF f * 8192 / 8192 = sF f := Int.mul_ediv_cancel _ (by decide)
  generalize sF f = s at *
  generalize pwI (18 - bi) = U at *
  replace hb0 := Lib.hid hb0
  replace hz := Lib.hid hz
  replace hcs := Lib.hid hcs
  replace eV := Lib.hid eV
  go_enter Try.func68, Try.ntmps68
  go_wp2_with fail
  rw [← eV.out]
  obtain ⟨k0, k1, k2, k3⟩ := hcs.out _ (Below.refl _ _)
  go_wp2_with fail
  refine (SP.out _).mono ?_
  rintro e w1 ⟨rfl, hb1⟩
  have hb1 := (Below.refl (w.heap.size + 1) V).trans (hb1.mono (Nat.le_of_eq hz.out.symm))
  obtain ⟨k0, k1, k2, k3⟩ := hcs.out _ hb1
  go_wp2_with fail
  refine (SP.out _).mono ?_
  rintro e w2 ⟨rfl, hb2⟩
  have hb2 := hb1.trans (hb2.mono (by have := hb1.size; have := hz.out; omega))
  clear hb1
  obtain ⟨k0, k1, k2, k3⟩ := hcs.out _ hb2
  go_wp2
  go_ret2
  exact ⟨by first | rfl | (rw [E2.out]; rfl), hb0.out.trans (hb2.mono (by omega))⟩
theorem wunf_any (nu bi sc : Int) (sg : Bool) (f : Int) (h1 : 1 ≤ bi) (h2 : bi ≤ 18) (f0 : 0 ≤ f) (f1 : f < 524288) (w : World) : Calls Try.prog 68 #[.agg #[.int .i64 nu, .int .i64 bi, .int .i64 sc, .bool sg], .int .u32 f] w fun e w' => e = .returned (.tuple #[.int .i64 (if tkB sg bi f = true then sF f / pwI (18 - bi) else 0), .bool (tkB sg bi f)]) ∧ Below w.heap.size w w' := by
  by_cases ht : sF f % pwI (18 - bi) = 0
  · by_cases hn : 0 ≤ sF f
    · have e : tkB sg bi f = true := by unfold tkB; rw [decide_eq_true ht, decide_eq_true hn]; rfl
      rw [e]
      exact wunf_p nu bi sc sg f h1 h2 f0 f1 ht hn w
    · have e : tkB sg bi f = sg := by unfold tkB; rw [decide_eq_true ht, decide_eq_false hn]; rfl
      rw [e]
      cases sg
      · exact wunf_n nu bi sc false f h1 h2 f0 f1 ht (by omega) rfl w
      · exact wunf_s nu bi sc true f h1 h2 f0 f1 ht (by omega) rfl w
  · have e : tkB sg bi f = false := by unfold tkB; rw [decide_eq_false ht]; rfl
    rw [e]
    exact wunf_w nu bi sc sg f h1 h2 f0 f1 ht w
def fF (n : Int) : Int := n / 1024 % 524288
theorem fF_bd (n : Int) : 0 ≤ fF n ∧ fF n < 524288 := by unfold fF; omega
theorem and_255 {n : Int} (h0 : 0 ≤ n) (h1 : n ≤ 4294967295) : bits .and .u32 n 255 = n % 256 := u32_mask n 8 (by decide) h0 (by omega)
theorem and_fld {n : Int} (h0 : 0 ≤ n) (h1 : n ≤ 4294967295) : bits .and .u32 (n / 1024) 524287 = fF n := u32_mask (n / 1024) 19 (by decide) (by omega) (by omega)
theorem and_src {n : Int} (h0 : 0 ≤ n) (h1 : n ≤ 4294967295) : bits .and .u32 (n / 256) 3 = n / 256 % 4 := u32_mask (n / 256) 2 (by decide) (by omega) (by omega)
theorem and_sta {n : Int} (h0 : 0 ≤ n) (h1 : n ≤ 4294967295) : bits .and .u32 (n / 536870912) 3 = n / 536870912 % 4 := u32_mask (n / 536870912) 2 (by decide) (by omega) (by omega)
theorem sQ_bd {f U : Int} (h0 : 0 ≤ f) (h1 : f < 524288) (u : 1 ≤ U) : -262144 ≤ sF f / U ∧ sF f / U ≤ 262144 := by
  have := sF_bd h0 h1
  exact wdiv_bd u (by omega) (by omega) (by omega)
theorem sm_bd {q sc : Int} (a : -262144 ≤ q ∧ q ≤ 262144) (s0 : 1 ≤ sc) (s1 : sc ≤ 1073741824) : -281474976710656 ≤ q * sc ∧ q * sc ≤ 281474976710656 := by
  have x := Int.mul_le_mul_of_nonneg_right a.1 (show 0 ≤ sc by omega)
  have y := Int.mul_le_mul_of_nonneg_right a.2 (show 0 ≤ sc by omega)
  omega
set_option maxRecDepth 100000 in
set_option maxHeartbeats 8000000 in
theorem wtake_1 (nu bi sc : Int) (sg : Bool) (n : Int) (n0 : 0 ≤ n) (n1 : n ≤ 4294967295) (h : lbR nu bi sc = false) (w : World) : Calls Try.prog 54 #[.agg #[.int .i64 nu, .int .i64 bi, .int .i64 sc, .bool sg], .int .u32 n] w fun e w' => e = .returned (.tuple #[.int .i64 0, .int .i64 0, .int .i64 0, .int .i64 1]) ∧ Below w.heap.size w w' := by
  obtain ⟨V, eV, hb0, hz, hcs⟩ := wlb_box w nu bi sc sg
  have RT := fun u => wright nu bi sc sg u
  rw [h] at RT
  replace RT := Lib.hid RT
  clear h
  replace hb0 := Lib.hid hb0
  replace hz := Lib.hid hz
  replace hcs := Lib.hid hcs
  replace eV := Lib.hid eV
  go_enter Try.func54, Try.ntmps54
  go_wp2_with fail
  rw [← eV.out]
  obtain ⟨k0, k1, k2, k3⟩ := hcs.out _ (Below.refl _ _)
  go_wp2_with fail
  refine (RT.out _).mono ?_
  rintro e w1 ⟨rfl, hb1⟩
  have hb1 := (Below.refl (w.heap.size + 1) V).trans (hb1.mono (Nat.le_of_eq hz.out.symm))
  obtain ⟨k0, k1, k2, k3⟩ := hcs.out _ hb1
  go_wp2
  try simp only [Exit.inBlock, Exit.then]
  refine bodyPost_ret (four_tmp rfl _ _ _) rfl ?_
  exact ⟨rfl, hb0.out.trans (hb1.mono (by omega))⟩
set_option maxRecDepth 100000 in
set_option maxHeartbeats 8000000 in
theorem wtake_4 (nu bi sc : Int) (sg : Bool) (n : Int) (n0 : 0 ≤ n) (n1 : n ≤ 4294967295) (h : lbR nu bi sc = true) (ho : odB n = false) (w : World) : Calls Try.prog 54 #[.agg #[.int .i64 nu, .int .i64 bi, .int .i64 sc, .bool sg], .int .u32 n] w fun e w' => e = .returned (.tuple #[.int .i64 0, .int .i64 0, .int .i64 0, .int .i64 4]) ∧ Below w.heap.size w w' := by
  obtain ⟨V, eV, hb0, hz, hcs⟩ := wlb_box w nu bi sc sg
  have RT := fun u => wright nu bi sc sg u
  rw [h] at RT
  replace RT := Lib.hid RT
  have OD := fun u => wodd n n0 n1 u
  rw [ho] at OD
  replace OD := Lib.hid OD
  clear h
  clear ho
  replace hb0 := Lib.hid hb0
  replace hz := Lib.hid hz
  replace hcs := Lib.hid hcs
  replace eV := Lib.hid eV
  go_enter Try.func54, Try.ntmps54
  go_wp2_with fail
  rw [← eV.out]
  obtain ⟨k0, k1, k2, k3⟩ := hcs.out _ (Below.refl _ _)
  go_wp2_with fail
  refine (RT.out _).mono ?_
  rintro e w1 ⟨rfl, hb1⟩
  have hb1 := (Below.refl (w.heap.size + 1) V).trans (hb1.mono (Nat.le_of_eq hz.out.symm))
  obtain ⟨k0, k1, k2, k3⟩ := hcs.out _ hb1
  go_wp2_with fail
  refine (OD.out _).mono ?_
  rintro e w2 ⟨rfl, m2, e2w⟩
  have hb2 := Lib.hid (show Below (w.heap.size + 1) V w2 by rw [e2w]; exact below_drewN hb1 m2)
  clear e2w hb1
  obtain ⟨k0, k1, k2, k3⟩ := hcs.out _ hb2.out
  go_wp2
  try simp only [Exit.inBlock, Exit.then]
  refine bodyPost_ret (four_tmp rfl _ _ _) rfl ?_
  exact ⟨rfl, hb0.out.trans (hb2.out.mono (by omega))⟩
set_option maxRecDepth 100000 in
set_option maxHeartbeats 8000000 in
theorem wtake_10 (nu bi sc : Int) (sg : Bool) (n : Int) (n0 : 0 ≤ n) (n1 : n ≤ 4294967295) (h : lbR nu bi sc = true) (ho : odB n = true) (hn : n % 256 ≠ nu) (w : World) : Calls Try.prog 54 #[.agg #[.int .i64 nu, .int .i64 bi, .int .i64 sc, .bool sg], .int .u32 n] w fun e w' => e = .returned (.tuple #[.int .i64 0, .int .i64 0, .int .i64 0, .int .i64 10]) ∧ Below w.heap.size w w' := by
  obtain ⟨V, eV, hb0, hz, hcs⟩ := wlb_box w nu bi sc sg
  have RT := fun u => wright nu bi sc sg u
  rw [h] at RT
  replace RT := Lib.hid RT
  have OD := fun u => wodd n n0 n1 u
  rw [ho] at OD
  replace OD := Lib.hid OD
  have ea := and_255 n0 n1
  clear h
  clear ho
  replace hb0 := Lib.hid hb0
  replace hz := Lib.hid hz
  replace hcs := Lib.hid hcs
  replace eV := Lib.hid eV
  go_enter Try.func54, Try.ntmps54
  go_wp2_with fail
  rw [← eV.out]
  obtain ⟨k0, k1, k2, k3⟩ := hcs.out _ (Below.refl _ _)
  go_wp2_with fail
  refine (RT.out _).mono ?_
  rintro e w1 ⟨rfl, hb1⟩
  have hb1 := (Below.refl (w.heap.size + 1) V).trans (hb1.mono (Nat.le_of_eq hz.out.symm))
  obtain ⟨k0, k1, k2, k3⟩ := hcs.out _ hb1
  go_wp2_with fail
  refine (OD.out _).mono ?_
  rintro e w2 ⟨rfl, m2, e2w⟩
  have hb2 := Lib.hid (show Below (w.heap.size + 1) V w2 by rw [e2w]; exact below_drewN hb1 m2)
  clear e2w hb1
  obtain ⟨k0, k1, k2, k3⟩ := hcs.out _ hb2.out
  go_wp2
  try simp only [Exit.inBlock, Exit.then]
  refine bodyPost_ret (four_tmp rfl _ _ _) rfl ?_
  exact ⟨rfl, hb0.out.trans (hb2.out.mono (by omega))⟩
set_option maxRecDepth 100000 in
set_option maxHeartbeats 8000000 in
theorem wtake_3 (nu bi sc : Int) (sg : Bool) (n : Int) (n0 : 0 ≤ n) (n1 : n ≤ 4294967295) (h : lbR nu bi sc = true) (ho : odB n = true) (hn : n % 256 = nu) (ht : tkB sg bi (fF n) = false) (w : World) : Calls Try.prog 54 #[.agg #[.int .i64 nu, .int .i64 bi, .int .i64 sc, .bool sg], .int .u32 n] w fun e w' => e = .returned (.tuple #[.int .i64 0, .int .i64 0, .int .i64 0, .int .i64 3]) ∧ Below w.heap.size w w' := by
  obtain ⟨V, eV, hb0, hz, hcs⟩ := wlb_box w nu bi sc sg
  have RT := fun u => wright nu bi sc sg u
  rw [h] at RT
  replace RT := Lib.hid RT
  have OD := fun u => wodd n n0 n1 u
  rw [ho] at OD
  replace OD := Lib.hid OD
  have ea := and_255 n0 n1
  obtain ⟨-, -, b1, b2, s1, s2⟩ := lb_ok h
  have fb := fF_bd n
  have UF := fun u => wunf_any nu bi sc sg (fF n) b1 b2 fb.1 fb.2 u
  rw [ht] at UF
  have ef := and_fld n0 n1
  rw [if_neg (by decide)] at UF
  replace UF := Lib.hid UF
  clear ht
  generalize fF n = F at *
  clear h
  clear ho
  replace hb0 := Lib.hid hb0
  replace hz := Lib.hid hz
  replace hcs := Lib.hid hcs
  replace eV := Lib.hid eV
  go_enter Try.func54, Try.ntmps54
  go_wp2_with fail
  rw [← eV.out]
  obtain ⟨k0, k1, k2, k3⟩ := hcs.out _ (Below.refl _ _)
  go_wp2_with fail
  refine (RT.out _).mono ?_
  rintro e w1 ⟨rfl, hb1⟩
  have hb1 := (Below.refl (w.heap.size + 1) V).trans (hb1.mono (Nat.le_of_eq hz.out.symm))
  obtain ⟨k0, k1, k2, k3⟩ := hcs.out _ hb1
  go_wp2_with fail
  refine (OD.out _).mono ?_
  rintro e w2 ⟨rfl, m2, e2w⟩
  have hb2 := Lib.hid (show Below (w.heap.size + 1) V w2 by rw [e2w]; exact below_drewN hb1 m2)
  clear e2w hb1
  obtain ⟨k0, k1, k2, k3⟩ := hcs.out _ hb2.out
  go_wp2_with fail
  refine (UF.out _).mono ?_
  rintro e w3 ⟨rfl, q3⟩
  have hb3 := hb2.out.trans (q3.mono (by have := hb2.out.size; have := hz.out; omega))
  clear q3
  obtain ⟨k0, k1, k2, k3⟩ := hcs.out _ hb3
  go_wp2
  try simp only [Exit.inBlock, Exit.then]
  refine bodyPost_ret (four_tmp rfl _ _ _) rfl ?_
  exact ⟨rfl, hb0.out.trans (hb3.mono (by omega))⟩
set_option maxRecDepth 100000 in
set_option maxHeartbeats 8000000 in
theorem wtake_0 (nu bi sc : Int) (sg : Bool) (n : Int) (n0 : 0 ≤ n) (n1 : n ≤ 4294967295) (h : lbR nu bi sc = true) (ho : odB n = true) (hn : n % 256 = nu) (ht : tkB sg bi (fF n) = true) (w : World) : Calls Try.prog 54 #[.agg #[.int .i64 nu, .int .i64 bi, .int .i64 sc, .bool sg], .int .u32 n] w fun e w' => e = .returned (.tuple #[.int .i64 (sF (fF n) / pwI (18 - bi) * sc), .int .i64 (n / 256 % 4), .int .i64 (n / 536870912 % 4), .int .i64 0]) ∧ Below w.heap.size w w' := by
  obtain ⟨V, eV, hb0, hz, hcs⟩ := wlb_box w nu bi sc sg
  have RT := fun u => wright nu bi sc sg u
  rw [h] at RT
  replace RT := Lib.hid RT
  have OD := fun u => wodd n n0 n1 u
  rw [ho] at OD
  replace OD := Lib.hid OD
  have ea := and_255 n0 n1
  obtain ⟨-, -, b1, b2, s1, s2⟩ := lb_ok h
  have fb := fF_bd n
  have UF := fun u => wunf_any nu bi sc sg (fF n) b1 b2 fb.1 fb.2 u
  rw [ht] at UF
  have ef := and_fld n0 n1
  rw [if_pos rfl] at UF
  have e1 := and_src n0 n1
  have e2 := and_sta n0 n1
  have sb := sm_bd (sQ_bd (U := pwI (18 - bi)) fb.1 fb.2 (pwI_bd (by omega) (by omega)).1) s1 s2
  generalize sF (fF n) / pwI (18 - bi) = Q at *
  have em : IntKind.i64.wrap (Q * sc) = Q * sc := IntWalk.i64_in _ ⟨by omega, by omega⟩
  replace UF := Lib.hid UF
  clear ht
  generalize fF n = F at *
  clear h
  clear ho
  replace hb0 := Lib.hid hb0
  replace hz := Lib.hid hz
  replace hcs := Lib.hid hcs
  replace eV := Lib.hid eV
  go_enter Try.func54, Try.ntmps54
  go_wp2_with fail
  rw [← eV.out]
  obtain ⟨k0, k1, k2, k3⟩ := hcs.out _ (Below.refl _ _)
  go_wp2_with fail
  refine (RT.out _).mono ?_
  rintro e w1 ⟨rfl, hb1⟩
  have hb1 := (Below.refl (w.heap.size + 1) V).trans (hb1.mono (Nat.le_of_eq hz.out.symm))
  obtain ⟨k0, k1, k2, k3⟩ := hcs.out _ hb1
  go_wp2_with fail
  refine (OD.out _).mono ?_
  rintro e w2 ⟨rfl, m2, e2w⟩
  have hb2 := Lib.hid (show Below (w.heap.size + 1) V w2 by rw [e2w]; exact below_drewN hb1 m2)
  clear e2w hb1
  obtain ⟨k0, k1, k2, k3⟩ := hcs.out _ hb2.out
  go_wp2_with fail
  refine (UF.out _).mono ?_
  rintro e w3 ⟨rfl, q3⟩
  have hb3 := hb2.out.trans (q3.mono (by have := hb2.out.size; have := hz.out; omega))
  clear q3
  obtain ⟨k0, k1, k2, k3⟩ := hcs.out _ hb3
  go_wp2
  try simp only [Exit.inBlock, Exit.then]
  refine bodyPost_ret (four_tmp rfl _ _ _) rfl ?_
  exact ⟨rfl, hb0.out.trans (hb3.mono (by omega))⟩
theorem said_set {b : Nat} {v : World} (h : Held b [.int .i64 0, .int .i64 0, .int .i64 0, .int .i64 0] v) (x0 x1 x2 x3 : Int) : Held b [.int .i64 x0, .int .i64 x1, .int .i64 x2, .int .i64 x3] ((((v.setCell ⟨b, 0, none⟩ (.int .i64 x0)).setCell ⟨b, 1, none⟩ (.int .i64 x1)).setCell ⟨b, 2, none⟩ (.int .i64 x2)).setCell ⟨b, 3, none⟩ (.int .i64 x3)) :=
  (((h.set 0 (.int .i64 x0) (by simp)).set 1 (.int .i64 x1) (by simp)).set 2 (.int .i64 x2) (by simp)).set 3 (.int .i64 x3) (by simp)
theorem said_bel {B b : Nat} {u v : World} (h : Below B u v) (hb : B ≤ b) (x0 x1 x2 x3 : Int) : Below B u ((((v.setCell ⟨b, 0, none⟩ (.int .i64 x0)).setCell ⟨b, 1, none⟩ (.int .i64 x1)).setCell ⟨b, 2, none⟩ (.int .i64 x2)).setCell ⟨b, 3, none⟩ (.int .i64 x3)) :=
  (((h.setCell hb _).setCell hb _).setCell hb _).setCell hb _
end Go.Proofs.Ytffhhdjcodapjaa
