/- Words: a word put; the law WordPuts; walked. -/
import Derived.Test.YtffhhdjcodapjaaWord4
namespace Go.Proofs.Ytffhhdjcodapjaa
open Go.ChangeShapes Go.WideShapes Go.ChangeAt Go.RowKit
set_option linter.unusedVariables false
set_option linter.unusedSimpArgs false
theorem pw_mul {bi : Int} (h1 : 1 ≤ bi) (h2 : bi ≤ 18) : pwI bi * pwI (18 - bi) = 262144 := by
  unfold pwI
  rw [← Int.pow_add, show bi.toNat + (18 - bi).toNat = 18 by omega]
  decide
/-- The field. -/
def tW (sg : Bool) (bi sc v : Int) : Int := qN sg bi sc v * pwI (18 - bi)
def wV (nu x0 f x1 : Int) : Int := nu + 256 * x0 + 1024 * f + 536870912 * x1
theorem tW_bd {sg : Bool} {bi sc v : Int} (h1 : 1 ≤ bi) (h2 : bi ≤ 18) : -262144 ≤ tW sg bi sc v ∧ tW sg bi sc v < 262144 := by
  have n := qN_bd (sg := sg) (sc := sc) (v := v) h1 h2
  have l := loI_bd (sg := sg) h1 h2
  have p := pwI_bd (b := 18 - bi) (by omega) (by omega)
  have m := pw_mul h1 h2
  unfold tW
  have a := Int.mul_le_mul_of_nonneg_right (show -(pwI bi) ≤ qN sg bi sc v by omega) (show 0 ≤ pwI (18 - bi) by omega)
  have b := Int.mul_le_mul_of_nonneg_right (show qN sg bi sc v ≤ pwI bi - 1 by omega) (show 0 ≤ pwI (18 - bi) by omega)
  rw [Int.neg_mul] at a
  rw [Int.sub_mul] at b
  omega
theorem wV_or1 {nu x0 : Int} (n0 : 0 ≤ nu) (n1 : nu ≤ 255) (a0 : 0 ≤ x0) (a1 : x0 ≤ 3) : bits .or .u32 nu (x0 * 256) = nu + x0 * 256 :=
  bits_join_low .u32 32 (by decide) wraps_u32 8 nu (x0 * 256) n0 (by omega) (by omega) (by omega) (by omega) (by omega)
theorem wV_or2 {y f : Int} (n0 : 0 ≤ y) (n1 : y ≤ 1023) (a0 : 0 ≤ f) (a1 : f < 524288) : bits .or .u32 y (f * 1024) = y + f * 1024 :=
  bits_join_low .u32 32 (by decide) wraps_u32 10 y (f * 1024) n0 (by omega) (by omega) (by omega) (by omega) (by omega)
theorem wV_or3 {y x1 : Int} (n0 : 0 ≤ y) (n1 : y < 536870912) (a0 : 0 ≤ x1) (a1 : x1 ≤ 3) : bits .or .u32 y (x1 * 536870912) = y + x1 * 536870912 :=
  bits_join_low .u32 32 (by decide) wraps_u32 29 y (x1 * 536870912) n0 (by omega) (by omega) (by omega) (by omega) (by omega)
theorem wV_and {T : Int} : bits .and .u32 (T % 4294967296) 524287 = T % 524288 := by
  rw [show (524287 : Int) = 2 ^ 19 - 1 by decide, u32_mask (T % 4294967296) 19 (by decide) (by omega) (by omega)]
  rw [show (2 : Int) ^ 19 = 524288 by decide]
  omega
set_option maxRecDepth 100000 in
set_option maxHeartbeats 8000000 in
theorem wput_no (nu bi sc : Int) (sg : Bool) (x0 v x1 : Int) (h : lbR nu bi sc = false) (w : World) : Calls Try.prog 53 #[.agg #[.int .i64 nu, .int .i64 bi, .int .i64 sc, .bool sg], .int .i64 x0, .int .i64 v, .int .i64 x1] w fun e w' => e = .returned (.tuple #[.int .u32 0, .bool false, .int .i64 1]) ∧ Below w.heap.size w w' := by
  obtain ⟨V, eV, hb0, hz, hcs⟩ := wlb_box w nu bi sc sg
  have RT := fun u => wright nu bi sc sg u
  rw [h] at RT
  replace RT := Lib.hid RT
  replace hb0 := Lib.hid hb0
  replace hz := Lib.hid hz
  replace hcs := Lib.hid hcs
  replace eV := Lib.hid eV
  go_enter Try.func53, Try.ntmps53
  go_wp2_with fail
  rw [← eV.out]
  obtain ⟨k0, k1, k2, k3⟩ := hcs.out _ (Below.refl _ _)
  go_wp2_with fail
  refine (RT.out _).mono ?_
  rintro e w1 ⟨rfl, hb1⟩
  have hb1 := (Below.refl (w.heap.size + 1) V).trans (hb1.mono (Nat.le_of_eq hz.out.symm))
  obtain ⟨k0, k1, k2, k3⟩ := hcs.out _ hb1
  go_wp2
  go_ret3
  exact ⟨rfl, hb0.out.trans (hb1.mono (by omega))⟩
set_option maxRecDepth 100000 in
set_option maxHeartbeats 8000000 in
theorem wput_r0 (nu bi sc : Int) (sg : Bool) (x0 v x1 : Int) (h : lbR nu bi sc = true) (g0 : x0 < 0) (w : World) : Calls Try.prog 53 #[.agg #[.int .i64 nu, .int .i64 bi, .int .i64 sc, .bool sg], .int .i64 x0, .int .i64 v, .int .i64 x1] w fun e w' => e = .returned (.tuple #[.int .u32 0, .bool false, .int .i64 2]) ∧ Below w.heap.size w w' := by
  obtain ⟨V, eV, hb0, hz, hcs⟩ := wlb_box w nu bi sc sg
  have RT := fun u => wright nu bi sc sg u
  rw [h] at RT
  replace RT := Lib.hid RT
  clear h
  replace hb0 := Lib.hid hb0
  replace hz := Lib.hid hz
  replace hcs := Lib.hid hcs
  replace eV := Lib.hid eV
  go_enter Try.func53, Try.ntmps53
  go_wp2_with fail
  rw [← eV.out]
  obtain ⟨k0, k1, k2, k3⟩ := hcs.out _ (Below.refl _ _)
  go_wp2_with fail
  refine (RT.out _).mono ?_
  rintro e w1 ⟨rfl, hb1⟩
  have hb1 := (Below.refl (w.heap.size + 1) V).trans (hb1.mono (Nat.le_of_eq hz.out.symm))
  obtain ⟨k0, k1, k2, k3⟩ := hcs.out _ hb1
  go_wp2
  go_ret3
  exact ⟨rfl, hb0.out.trans (hb1.mono (by omega))⟩
set_option maxRecDepth 100000 in
set_option maxHeartbeats 8000000 in
theorem wput_r1 (nu bi sc : Int) (sg : Bool) (x0 v x1 : Int) (h : lbR nu bi sc = true) (g0 : 0 ≤ x0) (g1 : 3 < x0) (w : World) : Calls Try.prog 53 #[.agg #[.int .i64 nu, .int .i64 bi, .int .i64 sc, .bool sg], .int .i64 x0, .int .i64 v, .int .i64 x1] w fun e w' => e = .returned (.tuple #[.int .u32 0, .bool false, .int .i64 2]) ∧ Below w.heap.size w w' := by
  obtain ⟨V, eV, hb0, hz, hcs⟩ := wlb_box w nu bi sc sg
  have RT := fun u => wright nu bi sc sg u
  rw [h] at RT
  replace RT := Lib.hid RT
  clear h
  replace hb0 := Lib.hid hb0
  replace hz := Lib.hid hz
  replace hcs := Lib.hid hcs
  replace eV := Lib.hid eV
  go_enter Try.func53, Try.ntmps53
  go_wp2_with fail
  rw [← eV.out]
  obtain ⟨k0, k1, k2, k3⟩ := hcs.out _ (Below.refl _ _)
  go_wp2_with fail
  refine (RT.out _).mono ?_
  rintro e w1 ⟨rfl, hb1⟩
  have hb1 := (Below.refl (w.heap.size + 1) V).trans (hb1.mono (Nat.le_of_eq hz.out.symm))
  obtain ⟨k0, k1, k2, k3⟩ := hcs.out _ hb1
  go_wp2
  go_ret3
  exact ⟨rfl, hb0.out.trans (hb1.mono (by omega))⟩
set_option maxRecDepth 100000 in
set_option maxHeartbeats 8000000 in
theorem wput_r2 (nu bi sc : Int) (sg : Bool) (x0 v x1 : Int) (h : lbR nu bi sc = true) (g0 : 0 ≤ x0) (g1 : x0 ≤ 3) (g2 : x1 < 0) (w : World) : Calls Try.prog 53 #[.agg #[.int .i64 nu, .int .i64 bi, .int .i64 sc, .bool sg], .int .i64 x0, .int .i64 v, .int .i64 x1] w fun e w' => e = .returned (.tuple #[.int .u32 0, .bool false, .int .i64 2]) ∧ Below w.heap.size w w' := by
  obtain ⟨V, eV, hb0, hz, hcs⟩ := wlb_box w nu bi sc sg
  have RT := fun u => wright nu bi sc sg u
  rw [h] at RT
  replace RT := Lib.hid RT
  clear h
  replace hb0 := Lib.hid hb0
  replace hz := Lib.hid hz
  replace hcs := Lib.hid hcs
  replace eV := Lib.hid eV
  go_enter Try.func53, Try.ntmps53
  go_wp2_with fail
  rw [← eV.out]
  obtain ⟨k0, k1, k2, k3⟩ := hcs.out _ (Below.refl _ _)
  go_wp2_with fail
  refine (RT.out _).mono ?_
  rintro e w1 ⟨rfl, hb1⟩
  have hb1 := (Below.refl (w.heap.size + 1) V).trans (hb1.mono (Nat.le_of_eq hz.out.symm))
  obtain ⟨k0, k1, k2, k3⟩ := hcs.out _ hb1
  go_wp2
  go_ret3
  exact ⟨rfl, hb0.out.trans (hb1.mono (by omega))⟩
set_option maxRecDepth 100000 in
set_option maxHeartbeats 8000000 in
theorem wput_r3 (nu bi sc : Int) (sg : Bool) (x0 v x1 : Int) (h : lbR nu bi sc = true) (g0 : 0 ≤ x0) (g1 : x0 ≤ 3) (g2 : 0 ≤ x1) (g3 : 3 < x1) (w : World) : Calls Try.prog 53 #[.agg #[.int .i64 nu, .int .i64 bi, .int .i64 sc, .bool sg], .int .i64 x0, .int .i64 v, .int .i64 x1] w fun e w' => e = .returned (.tuple #[.int .u32 0, .bool false, .int .i64 2]) ∧ Below w.heap.size w w' := by
  obtain ⟨V, eV, hb0, hz, hcs⟩ := wlb_box w nu bi sc sg
  have RT := fun u => wright nu bi sc sg u
  rw [h] at RT
  replace RT := Lib.hid RT
  clear h
  replace hb0 := Lib.hid hb0
  replace hz := Lib.hid hz
  replace hcs := Lib.hid hcs
  replace eV := Lib.hid eV
  go_enter Try.func53, Try.ntmps53
  go_wp2_with fail
  rw [← eV.out]
  obtain ⟨k0, k1, k2, k3⟩ := hcs.out _ (Below.refl _ _)
  go_wp2_with fail
  refine (RT.out _).mono ?_
  rintro e w1 ⟨rfl, hb1⟩
  have hb1 := (Below.refl (w.heap.size + 1) V).trans (hb1.mono (Nat.le_of_eq hz.out.symm))
  obtain ⟨k0, k1, k2, k3⟩ := hcs.out _ hb1
  go_wp2
  go_ret3
  exact ⟨rfl, hb0.out.trans (hb1.mono (by omega))⟩
set_option maxRecDepth 100000 in
set_option maxHeartbeats 8000000 in
theorem wput_ok (nu bi sc : Int) (sg : Bool) (x0 v x1 : Int) (h : lbR nu bi sc = true) (g0 : 0 ≤ x0) (g1 : x0 ≤ 3) (g2 : 0 ≤ x1) (g3 : x1 ≤ 3) (w : World) : Calls Try.prog 53 #[.agg #[.int .i64 nu, .int .i64 bi, .int .i64 sc, .bool sg], .int .i64 x0, .int .i64 v, .int .i64 x1] w fun e w' => e = .returned (.tuple #[.int .u32 (parW (wV nu x0 (tW sg bi sc v % 524288) x1)), .bool (qN sg bi sc v != qX v sc), .int .i64 0]) ∧ Below w.heap.size w w' := by
  obtain ⟨V, eV, hb0, hz, hcs⟩ := wlb_box w nu bi sc sg
  have RT := fun u => wright nu bi sc sg u
  rw [h] at RT
  replace RT := Lib.hid RT
  obtain ⟨n0, n1, b1, b2, s1, s2⟩ := lb_ok h
  clear h
  have QT := fun u => wquot nu bi sc sg v b1 b2 s1 s2 u
  have SP := Lib.hid (fun u => wspare nu bi sc sg b1 b2 u)
  have tb := tW_bd (sg := sg) (sc := sc) (v := v) b1 b2
  have hm : min (18 - bi).toNat 64 = (18 - bi).toNat := by omega
  have e3 : wrap64 (qN sg bi sc v * 2 ^ (18 - bi).toNat) = tW sg bi sc v := by show wrap64 (tW sg bi sc v) = _; unfold wrap64; omega
  generalize tW sg bi sc v = T at *
  have ea := wV_and (T := T)
  have hF : 0 ≤ T % 524288 ∧ T % 524288 < 524288 := by omega
  have o1 := wV_or1 n0 n1 g0 g1
  have o2 := wV_or2 (y := nu + x0 * 256) (f := T % 524288) (by omega) (by omega) (by omega) (by omega)
  have o3 := wV_or3 (y := nu + x0 * 256 + T % 524288 * 1024) (x1 := x1) (by omega) (by omega) g2 g3
  have PA := fun u => wparity (nu + x0 * 256 + T % 524288 * 1024 + x1 * 536870912) (by omega) (by omega) u
  rw [show wV nu x0 (T % 524288) x1 = nu + x0 * 256 + T % 524288 * 1024 + x1 * 536870912 by unfold wV; omega]
  generalize qN sg bi sc v = N at *
  generalize qX v sc = Q at *
  generalize T % 524288 = F at *
  generalize parW (nu + x0 * 256 + F * 1024 + x1 * 536870912) = R at *
  replace QT := Lib.hid QT
  replace PA := Lib.hid PA
  replace hb0 := Lib.hid hb0
  replace hz := Lib.hid hz
  replace hcs := Lib.hid hcs
  replace eV := Lib.hid eV
  go_enter Try.func53, Try.ntmps53
  go_wp2_with fail
  rw [← eV.out]
  obtain ⟨k0, k1, k2, k3⟩ := hcs.out _ (Below.refl _ _)
  go_wp2_with fail
  refine (RT.out _).mono ?_
  rintro e w1 ⟨rfl, hb1⟩
  have hb1 := (Below.refl (w.heap.size + 1) V).trans (hb1.mono (Nat.le_of_eq hz.out.symm))
  obtain ⟨k0, k1, k2, k3⟩ := hcs.out _ hb1
  go_wp2_with fail
  obtain ⟨V2, eV2, hc0, hz2, hcd⟩ := wcb_box w1 nu bi sc sg
  rw [← eV2]
  replace hcd := Lib.hid hcd
  replace hc0 := Lib.hid hc0
  clear eV2
  clear k0 k1 k2 k3
  obtain ⟨c0, c1, c2, c3⟩ := hcd.out _ (Below.refl _ _)
  refine (QT.out _).mono ?_
  rintro e w2 ⟨rfl, q2⟩
  have hd2 := (Below.refl (w1.heap.size + 1) V2).trans (q2.mono (Nat.le_of_eq hz2.symm))
  clear q2 c0 c1 c2 c3
  obtain ⟨c0, c1, c2, c3⟩ := hcd.out _ hd2
  replace hd2 := Lib.hid hd2
  go_wp2_with fail
  refine (SP.out _).mono ?_
  rintro e w3 ⟨rfl, q3⟩
  have hd3 := hd2.out.trans (q3.mono (by have := hd2.out.size; omega))
  clear q3 c0 c1 c2 c3
  obtain ⟨c0, c1, c2, c3⟩ := hcd.out _ hd3
  replace hd3 := Lib.hid hd3
  go_wp2_with fail
  refine (PA.out _).mono ?_
  rintro e w4 ⟨rfl, m4, rfl⟩
  go_wp2
  go_ret3
  exact ⟨rfl, below_drewN (hb0.out.trans ((hb1.mono (by omega)).trans ((hc0.out.mono (by have := hb1.size; have := hz.out; omega)).trans (hd3.out.mono (by have := hb1.size; have := hz.out; omega))))) m4⟩
end Go.Proofs.Ytffhhdjcodapjaa
