/- Words: the law WordBack; walked. -/
import Derived.Test.YtlhejkaedgelnaaWord7
namespace Go.Proofs.Ytlhejkaedgelnaa
open Go.ChangeShapes Go.WideShapes Go.ChangeAt Go.RowKit
set_option linter.unusedVariables false
set_option linter.unusedSimpArgs false
theorem wlz_box (w : World) (nu bi sc : Int) (sg : Bool) (x0 x1 v k : Int) : ∃ V, V = (((w.alloc (.cells #[.int .i64 nu, .int .i64 bi, .int .i64 sc, .bool sg] 23)).alloc (.cells #[.int .i64 x0, .int .i64 x1] 35)).alloc (.cells #[.int .i64 v, .int .i64 k] 47)) ∧ Below w.heap.size w V ∧ V.heap.size = w.heap.size + 3 ∧ ∀ u, Below (w.heap.size + 3) V u → u.cell? ⟨w.heap.size, 0, none⟩ = some (.int .i64 nu) ∧ u.cell? ⟨w.heap.size, 1, none⟩ = some (.int .i64 bi) ∧ u.cell? ⟨w.heap.size, 2, none⟩ = some (.int .i64 sc) ∧ u.cell? ⟨w.heap.size, 3, none⟩ = some (.bool sg) ∧ u.cell? ⟨w.heap.size + 1, 0, none⟩ = some (.int .i64 x0) ∧ u.cell? ⟨w.heap.size + 1, 1, none⟩ = some (.int .i64 x1) ∧ u.cell? ⟨w.heap.size + 2, 0, none⟩ = some (.int .i64 v) ∧ u.cell? ⟨w.heap.size + 2, 1, none⟩ = some (.int .i64 k) :=
  ⟨_, rfl, (by repeat (first | exact Below.refl _ _ | assumption | apply Below.drew | apply below_drewN | (refine Below.alloc ?_ (by first | exact Nat.le_refl _ | omega | (simp <;> omega)) _) | (refine Below.setCell ?_ (by first | exact Nat.le_refl _ | omega | (simp <;> omega)) _))), by simp, fun u hu => ⟨(bc hu (by omega)).trans (by go_simp), (bc hu (by omega)).trans (by go_simp), (bc hu (by omega)).trans (by go_simp), (bc hu (by omega)).trans (by go_simp), (bc hu (by omega)).trans (by go_simp), (bc hu (by omega)).trans (by go_simp), (bc hu (by omega)).trans (by go_simp), (bc hu (by omega)).trans (by go_simp)⟩⟩
theorem two_bd (k : Nat) (h : k ≤ 31) : 1 ≤ (2 : Int) ^ k ∧ (2 : Int) ^ k ≤ 2147483648 := by
  have a : ∀ i : Fin 32, 1 ≤ (2 : Int) ^ i.val ∧ (2 : Int) ^ i.val ≤ 2147483648 := by decide +kernel
  exact a ⟨k, by omega⟩
theorem abs01w (n : Int) (w : World) (h : -4611686018427387904 ≤ n) : Calls Try.prog 27 #[.int .i64 n] w fun e w' => e = .returned (.int .i64 (if n < 0 then -n else n)) ∧ w = w' := by
  by_cases c : n < 0
  · rw [if_pos c]
    go_enter Try.func27, Try.ntmps27
    go_wp2
    go_ret
    exact ⟨rfl, rfl⟩
  · rw [if_neg c]
    go_enter Try.func27, Try.ntmps27
    go_wp2
    go_ret
    exact ⟨rfl, rfl⟩
theorem near_sc {v sc q : Int} (s1 : 1 ≤ sc) (v0 : -274877906944 < v) (v1 : v < 274877906944) (e : q = qX v sc) : 2 * (if q * sc - v < 0 then -(q * sc - v) else q * sc - v) ≤ sc := by
  have c : c09 v (-274877906944) 274877906944 = v := by unfold c09; omega
  unfold qX at e
  rw [c] at e
  have a := Int.mul_ediv_add_emod (v + sc / 2) sc
  have b := Int.emod_nonneg (v + sc / 2) (show sc ≠ 0 by omega)
  have d := Int.emod_lt_of_pos (v + sc / 2) (show 0 < sc by omega)
  rw [← e, Int.mul_comm] at a
  split <;> omega
set_option maxRecDepth 100000 in
set_option maxHeartbeats 8000000 in
theorem wback_no (nu bi sc : Int) (sg : Bool) (x0 x1 v k : Int) (h : lbR nu bi sc = false) (w : World) : Calls Try.prog 6 #[.agg #[.int .i64 nu, .int .i64 bi, .int .i64 sc, .bool sg], .agg #[.int .i64 x0, .int .i64 x1], .agg #[.int .i64 v, .int .i64 k]] w fun e w' => e = .returned (.bool true) ∧ Below w.heap.size w w' := by
  obtain ⟨V, eV, hb0, hz, hcs⟩ := wlz_box w nu bi sc sg x0 x1 v k
  have PT := Lib.hid (fun u => wput_no nu bi sc sg x0 v x1 h u)
  have LV := Lib.hid (fun u => lives28 u)
  replace hb0 := Lib.hid hb0
  replace hz := Lib.hid hz
  replace hcs := Lib.hid hcs
  replace eV := Lib.hid eV
  go_enter Try.func6, Try.ntmps6
  go_wp2_with fail
  rw [← eV.out]
  obtain ⟨k0, k1, k2, k3, k4, k5, k6, k7⟩ := hcs.out _ (Below.refl _ _)
  go_wp2_with fail
  refine (PT.out _).mono ?_
  rintro e w1 ⟨rfl, hb1⟩
  have hb1 := (Below.refl (w.heap.size + 3) V).trans (hb1.mono (Nat.le_of_eq hz.out.symm))
  obtain ⟨k0, k1, k2, k3, k4, k5, k6, k7⟩ := hcs.out _ hb1
  go_wp2_with fail
  refine (LV.out _).mono ?_
  rintro e w2 ⟨rfl, hb2⟩
  have hb2 := hb1.trans (hb2.mono (by have := hb1.size; have := hz.out; omega))
  clear hb1
  obtain ⟨k0, k1, k2, k3, k4, k5, k6, k7⟩ := hcs.out _ hb2
  go_wp2
  go_ret
  exact ⟨rfl, hb0.out.trans (hb2.mono (by omega))⟩
set_option maxRecDepth 100000 in
set_option maxHeartbeats 8000000 in
theorem wback_r0 (nu bi sc : Int) (sg : Bool) (x0 x1 v k : Int) (h : lbR nu bi sc = true) (g0 : x0 < 0) (w : World) : Calls Try.prog 6 #[.agg #[.int .i64 nu, .int .i64 bi, .int .i64 sc, .bool sg], .agg #[.int .i64 x0, .int .i64 x1], .agg #[.int .i64 v, .int .i64 k]] w fun e w' => e = .returned (.bool true) ∧ Below w.heap.size w w' := by
  obtain ⟨V, eV, hb0, hz, hcs⟩ := wlz_box w nu bi sc sg x0 x1 v k
  have PT := Lib.hid (fun u => wput_r0 nu bi sc sg x0 v x1 h g0 u)
  have LV := Lib.hid (fun u => lives28 u)
  replace hb0 := Lib.hid hb0
  replace hz := Lib.hid hz
  replace hcs := Lib.hid hcs
  replace eV := Lib.hid eV
  go_enter Try.func6, Try.ntmps6
  go_wp2_with fail
  rw [← eV.out]
  obtain ⟨k0, k1, k2, k3, k4, k5, k6, k7⟩ := hcs.out _ (Below.refl _ _)
  go_wp2_with fail
  refine (PT.out _).mono ?_
  rintro e w1 ⟨rfl, hb1⟩
  have hb1 := (Below.refl (w.heap.size + 3) V).trans (hb1.mono (Nat.le_of_eq hz.out.symm))
  obtain ⟨k0, k1, k2, k3, k4, k5, k6, k7⟩ := hcs.out _ hb1
  go_wp2_with fail
  refine (LV.out _).mono ?_
  rintro e w2 ⟨rfl, hb2⟩
  have hb2 := hb1.trans (hb2.mono (by have := hb1.size; have := hz.out; omega))
  clear hb1
  obtain ⟨k0, k1, k2, k3, k4, k5, k6, k7⟩ := hcs.out _ hb2
  go_wp2
  go_ret
  exact ⟨rfl, hb0.out.trans (hb2.mono (by omega))⟩
set_option maxRecDepth 100000 in
set_option maxHeartbeats 8000000 in
theorem wback_r1 (nu bi sc : Int) (sg : Bool) (x0 x1 v k : Int) (h : lbR nu bi sc = true) (g0 : 0 ≤ x0) (g1 : 3 < x0) (w : World) : Calls Try.prog 6 #[.agg #[.int .i64 nu, .int .i64 bi, .int .i64 sc, .bool sg], .agg #[.int .i64 x0, .int .i64 x1], .agg #[.int .i64 v, .int .i64 k]] w fun e w' => e = .returned (.bool true) ∧ Below w.heap.size w w' := by
  obtain ⟨V, eV, hb0, hz, hcs⟩ := wlz_box w nu bi sc sg x0 x1 v k
  have PT := Lib.hid (fun u => wput_r1 nu bi sc sg x0 v x1 h g0 g1 u)
  have LV := Lib.hid (fun u => lives28 u)
  replace hb0 := Lib.hid hb0
  replace hz := Lib.hid hz
  replace hcs := Lib.hid hcs
  replace eV := Lib.hid eV
  go_enter Try.func6, Try.ntmps6
  go_wp2_with fail
  rw [← eV.out]
  obtain ⟨k0, k1, k2, k3, k4, k5, k6, k7⟩ := hcs.out _ (Below.refl _ _)
  go_wp2_with fail
  refine (PT.out _).mono ?_
  rintro e w1 ⟨rfl, hb1⟩
  have hb1 := (Below.refl (w.heap.size + 3) V).trans (hb1.mono (Nat.le_of_eq hz.out.symm))
  obtain ⟨k0, k1, k2, k3, k4, k5, k6, k7⟩ := hcs.out _ hb1
  go_wp2_with fail
  refine (LV.out _).mono ?_
  rintro e w2 ⟨rfl, hb2⟩
  have hb2 := hb1.trans (hb2.mono (by have := hb1.size; have := hz.out; omega))
  clear hb1
  obtain ⟨k0, k1, k2, k3, k4, k5, k6, k7⟩ := hcs.out _ hb2
  go_wp2
  go_ret
  exact ⟨rfl, hb0.out.trans (hb2.mono (by omega))⟩
set_option maxRecDepth 100000 in
set_option maxHeartbeats 8000000 in
theorem wback_r2 (nu bi sc : Int) (sg : Bool) (x0 x1 v k : Int) (h : lbR nu bi sc = true) (g0 : 0 ≤ x0) (g1 : x0 ≤ 3) (g2 : x1 < 0) (w : World) : Calls Try.prog 6 #[.agg #[.int .i64 nu, .int .i64 bi, .int .i64 sc, .bool sg], .agg #[.int .i64 x0, .int .i64 x1], .agg #[.int .i64 v, .int .i64 k]] w fun e w' => e = .returned (.bool true) ∧ Below w.heap.size w w' := by
  obtain ⟨V, eV, hb0, hz, hcs⟩ := wlz_box w nu bi sc sg x0 x1 v k
  have PT := Lib.hid (fun u => wput_r2 nu bi sc sg x0 v x1 h g0 g1 g2 u)
  have LV := Lib.hid (fun u => lives28 u)
  replace hb0 := Lib.hid hb0
  replace hz := Lib.hid hz
  replace hcs := Lib.hid hcs
  replace eV := Lib.hid eV
  go_enter Try.func6, Try.ntmps6
  go_wp2_with fail
  rw [← eV.out]
  obtain ⟨k0, k1, k2, k3, k4, k5, k6, k7⟩ := hcs.out _ (Below.refl _ _)
  go_wp2_with fail
  refine (PT.out _).mono ?_
  rintro e w1 ⟨rfl, hb1⟩
  have hb1 := (Below.refl (w.heap.size + 3) V).trans (hb1.mono (Nat.le_of_eq hz.out.symm))
  obtain ⟨k0, k1, k2, k3, k4, k5, k6, k7⟩ := hcs.out _ hb1
  go_wp2_with fail
  refine (LV.out _).mono ?_
  rintro e w2 ⟨rfl, hb2⟩
  have hb2 := hb1.trans (hb2.mono (by have := hb1.size; have := hz.out; omega))
  clear hb1
  obtain ⟨k0, k1, k2, k3, k4, k5, k6, k7⟩ := hcs.out _ hb2
  go_wp2
  go_ret
  exact ⟨rfl, hb0.out.trans (hb2.mono (by omega))⟩
set_option maxRecDepth 100000 in
set_option maxHeartbeats 8000000 in
theorem wback_r3 (nu bi sc : Int) (sg : Bool) (x0 x1 v k : Int) (h : lbR nu bi sc = true) (g0 : 0 ≤ x0) (g1 : x0 ≤ 3) (g2 : 0 ≤ x1) (g3 : 3 < x1) (w : World) : Calls Try.prog 6 #[.agg #[.int .i64 nu, .int .i64 bi, .int .i64 sc, .bool sg], .agg #[.int .i64 x0, .int .i64 x1], .agg #[.int .i64 v, .int .i64 k]] w fun e w' => e = .returned (.bool true) ∧ Below w.heap.size w w' := by
  obtain ⟨V, eV, hb0, hz, hcs⟩ := wlz_box w nu bi sc sg x0 x1 v k
  have PT := Lib.hid (fun u => wput_r3 nu bi sc sg x0 v x1 h g0 g1 g2 g3 u)
  have LV := Lib.hid (fun u => lives28 u)
  replace hb0 := Lib.hid hb0
  replace hz := Lib.hid hz
  replace hcs := Lib.hid hcs
  replace eV := Lib.hid eV
  go_enter Try.func6, Try.ntmps6
  go_wp2_with fail
  rw [← eV.out]
  obtain ⟨k0, k1, k2, k3, k4, k5, k6, k7⟩ := hcs.out _ (Below.refl _ _)
  go_wp2_with fail
  refine (PT.out _).mono ?_
  rintro e w1 ⟨rfl, hb1⟩
  have hb1 := (Below.refl (w.heap.size + 3) V).trans (hb1.mono (Nat.le_of_eq hz.out.symm))
  obtain ⟨k0, k1, k2, k3, k4, k5, k6, k7⟩ := hcs.out _ hb1
  go_wp2_with fail
  refine (LV.out _).mono ?_
  rintro e w2 ⟨rfl, hb2⟩
  have hb2 := hb1.trans (hb2.mono (by have := hb1.size; have := hz.out; omega))
  clear hb1
  obtain ⟨k0, k1, k2, k3, k4, k5, k6, k7⟩ := hcs.out _ hb2
  go_wp2
  go_ret
  exact ⟨rfl, hb0.out.trans (hb2.mono (by omega))⟩
set_option maxRecDepth 100000 in
set_option maxHeartbeats 8000000 in
theorem wback_ca (nu bi sc : Int) (sg : Bool) (x0 x1 v k : Int) (h : lbR nu bi sc = true) (g0 : 0 ≤ x0) (g1 : x0 ≤ 3) (g2 : 0 ≤ x1) (g3 : x1 ≤ 3) (cl : (qN sg bi sc v != qX v sc) = true) (hk : k < 0) (w : World) : Calls Try.prog 6 #[.agg #[.int .i64 nu, .int .i64 bi, .int .i64 sc, .bool sg], .agg #[.int .i64 x0, .int .i64 x1], .agg #[.int .i64 v, .int .i64 k]] w fun e w' => e = .returned (.bool true) ∧ Below w.heap.size w w' := by
  obtain ⟨V, eV, hb0, hz, hcs⟩ := wlz_box w nu bi sc sg x0 x1 v k
  have s1 := (lb_ok h).2.2.2.2.1
  have PT := fun u => wput_ok nu bi sc sg x0 v x1 h g0 g1 g2 g3 u
  have TK := fun u => wtake_put nu bi sc sg x0 v x1 h g0 g1 g2 g3 u
  rw [cl] at PT
  have pb := parW_bd (wV nu x0 (tW sg bi sc v % 524288) x1)
  have OD := fun u => wodd (parW (wV nu x0 (tW sg bi sc v % 524288) x1)) pb.1 pb.2 u
  rw [parW_odd] at OD
  generalize parW (wV nu x0 (tW sg bi sc v % 524288) x1) = R at *
  generalize qN sg bi sc v * sc = V1 at *
  clear cl h
  obtain ⟨pb0, pb1⟩ := pb
  replace PT := Lib.hid PT
  replace TK := Lib.hid TK
  replace OD := Lib.hid OD
  have LV := Lib.hid (fun u => lives28 u)
  replace hb0 := Lib.hid hb0
  replace hz := Lib.hid hz
  replace hcs := Lib.hid hcs
  replace eV := Lib.hid eV
  go_enter Try.func6, Try.ntmps6
  go_wp2_with fail
  rw [← eV.out]
  obtain ⟨k0, k1, k2, k3, k4, k5, k6, k7⟩ := hcs.out _ (Below.refl _ _)
  go_wp2_with fail
  refine (PT.out _).mono ?_
  rintro e w1 ⟨rfl, hb1⟩
  have hb1 := (Below.refl (w.heap.size + 3) V).trans (hb1.mono (Nat.le_of_eq hz.out.symm))
  obtain ⟨k0, k1, k2, k3, k4, k5, k6, k7⟩ := hcs.out _ hb1
  go_wp2_with fail
  refine (TK.out _).mono ?_
  rintro e w2 ⟨rfl, hb2⟩
  have hb2 := hb1.trans (hb2.mono (by have := hb1.size; have := hz.out; omega))
  clear hb1
  obtain ⟨k0, k1, k2, k3, k4, k5, k6, k7⟩ := hcs.out _ hb2
  go_wp2_with fail
  refine (OD.out _).mono ?_
  rintro e w3 ⟨rfl, m3, e3w⟩
  have hb3 := Lib.hid (show Below (w.heap.size + 3) V w3 by rw [e3w]; exact below_drewN hb2 m3)
  clear e3w hb2
  obtain ⟨k0, k1, k2, k3, k4, k5, k6, k7⟩ := hcs.out _ hb3.out
  go_wp2_with fail
  go_quiet (fail)
  go_wp2_with fail
  refine (LV.out _).mono ?_
  rintro e w4 ⟨rfl, q4⟩
  go_wp2
  go_ret
  exact ⟨rfl, hb0.out.trans (((below_drewN hb3.out _).trans (q4.mono (by have := hb3.out.size; have := hz.out; show _ ≤ w3.heap.size; omega))).mono (by omega))⟩
set_option maxRecDepth 100000 in
set_option maxHeartbeats 8000000 in
theorem wback_cb (nu bi sc : Int) (sg : Bool) (x0 x1 v k : Int) (h : lbR nu bi sc = true) (g0 : 0 ≤ x0) (g1 : x0 ≤ 3) (g2 : 0 ≤ x1) (g3 : x1 ≤ 3) (cl : (qN sg bi sc v != qX v sc) = true) (hk : 31 < k) (w : World) : Calls Try.prog 6 #[.agg #[.int .i64 nu, .int .i64 bi, .int .i64 sc, .bool sg], .agg #[.int .i64 x0, .int .i64 x1], .agg #[.int .i64 v, .int .i64 k]] w fun e w' => e = .returned (.bool true) ∧ Below w.heap.size w w' := by
  obtain ⟨V, eV, hb0, hz, hcs⟩ := wlz_box w nu bi sc sg x0 x1 v k
  have s1 := (lb_ok h).2.2.2.2.1
  have PT := fun u => wput_ok nu bi sc sg x0 v x1 h g0 g1 g2 g3 u
  have TK := fun u => wtake_put nu bi sc sg x0 v x1 h g0 g1 g2 g3 u
  rw [cl] at PT
  have pb := parW_bd (wV nu x0 (tW sg bi sc v % 524288) x1)
  have OD := fun u => wodd (parW (wV nu x0 (tW sg bi sc v % 524288) x1)) pb.1 pb.2 u
  rw [parW_odd] at OD
  generalize parW (wV nu x0 (tW sg bi sc v % 524288) x1) = R at *
  generalize qN sg bi sc v * sc = V1 at *
  clear cl h
  obtain ⟨pb0, pb1⟩ := pb
  replace PT := Lib.hid PT
  replace TK := Lib.hid TK
  replace OD := Lib.hid OD
  have LV := Lib.hid (fun u => lives28 u)
  replace hb0 := Lib.hid hb0
  replace hz := Lib.hid hz
  replace hcs := Lib.hid hcs
  replace eV := Lib.hid eV
  go_enter Try.func6, Try.ntmps6
  go_wp2_with fail
  rw [← eV.out]
  obtain ⟨k0, k1, k2, k3, k4, k5, k6, k7⟩ := hcs.out _ (Below.refl _ _)
  go_wp2_with fail
  refine (PT.out _).mono ?_
  rintro e w1 ⟨rfl, hb1⟩
  have hb1 := (Below.refl (w.heap.size + 3) V).trans (hb1.mono (Nat.le_of_eq hz.out.symm))
  obtain ⟨k0, k1, k2, k3, k4, k5, k6, k7⟩ := hcs.out _ hb1
  go_wp2_with fail
  refine (TK.out _).mono ?_
  rintro e w2 ⟨rfl, hb2⟩
  have hb2 := hb1.trans (hb2.mono (by have := hb1.size; have := hz.out; omega))
  clear hb1
  obtain ⟨k0, k1, k2, k3, k4, k5, k6, k7⟩ := hcs.out _ hb2
  go_wp2_with fail
  refine (OD.out _).mono ?_
  rintro e w3 ⟨rfl, m3, e3w⟩
  have hb3 := Lib.hid (show Below (w.heap.size + 3) V w3 by rw [e3w]; exact below_drewN hb2 m3)
  clear e3w hb2
  obtain ⟨k0, k1, k2, k3, k4, k5, k6, k7⟩ := hcs.out _ hb3.out
  go_wp2_with fail
  go_quiet (fail)
  go_wp2_with fail
  refine (LV.out _).mono ?_
  rintro e w4 ⟨rfl, q4⟩
  go_wp2
  go_ret
  exact ⟨rfl, hb0.out.trans (((below_drewN hb3.out _).trans (q4.mono (by have := hb3.out.size; have := hz.out; show _ ≤ w3.heap.size; omega))).mono (by omega))⟩
set_option maxRecDepth 100000 in
set_option maxHeartbeats 8000000 in
theorem wback_ci (nu bi sc : Int) (sg : Bool) (x0 x1 v k : Int) (h : lbR nu bi sc = true) (g0 : 0 ≤ x0) (g1 : x0 ≤ 3) (g2 : 0 ≤ x1) (g3 : x1 ≤ 3) (cl : (qN sg bi sc v != qX v sc) = true) (hk0 : 0 ≤ k) (hk : k ≤ 31) (w : World) : Calls Try.prog 6 #[.agg #[.int .i64 nu, .int .i64 bi, .int .i64 sc, .bool sg], .agg #[.int .i64 x0, .int .i64 x1], .agg #[.int .i64 v, .int .i64 k]] w fun e w' => e = .returned (.bool true) ∧ Below w.heap.size w w' := by
  obtain ⟨V, eV, hb0, hz, hcs⟩ := wlz_box w nu bi sc sg x0 x1 v k
  have s1 := (lb_ok h).2.2.2.2.1
  have PT := fun u => wput_ok nu bi sc sg x0 v x1 h g0 g1 g2 g3 u
  have TK := fun u => wtake_put nu bi sc sg x0 v x1 h g0 g1 g2 g3 u
  rw [cl] at PT
  have pb := parW_bd (wV nu x0 (tW sg bi sc v % 524288) x1)
  have OD := fun u => wodd (parW (wV nu x0 (tW sg bi sc v % 524288) x1)) pb.1 pb.2 u
  rw [parW_odd] at OD
  obtain ⟨z0, z1, zo⟩ := xor_flip pb.1 pb.2 k.toNat (by omega) (parW_odd (wV nu x0 (tW sg bi sc v % 524288) x1))
  have T2 := fun u => wtake_4 nu bi sc sg (bits .xor .u32 (parW (wV nu x0 (tW sg bi sc v % 524288) x1)) (2 ^ k.toNat)) z0 z1 h zo u
  clear zo
  generalize hZ : bits .xor .u32 (parW (wV nu x0 (tW sg bi sc v % 524288) x1)) (2 ^ k.toNat) = Zx at *
  have kb : 1 ≤ (2 : Int) ^ k.toNat ∧ (2 : Int) ^ k.toNat ≤ 2147483648 := two_bd k.toNat (by omega)
  have km : min k.toNat 32 = k.toNat := by omega
  have ek : (2 : Int) ^ k.toNat % 4294967296 = 2 ^ k.toNat := by omega
  replace T2 := Lib.hid T2
  generalize parW (wV nu x0 (tW sg bi sc v % 524288) x1) = R at *
  generalize qN sg bi sc v * sc = V1 at *
  clear cl h
  obtain ⟨pb0, pb1⟩ := pb
  replace PT := Lib.hid PT
  replace TK := Lib.hid TK
  replace OD := Lib.hid OD
  have LV := Lib.hid (fun u => lives28 u)
  replace hb0 := Lib.hid hb0
  replace hz := Lib.hid hz
  replace hcs := Lib.hid hcs
  replace eV := Lib.hid eV
  go_enter Try.func6, Try.ntmps6
  go_wp2_with fail
  rw [← eV.out]
  obtain ⟨k0, k1, k2, k3, k4, k5, k6, k7⟩ := hcs.out _ (Below.refl _ _)
  go_wp2_with fail
  refine (PT.out _).mono ?_
  rintro e w1 ⟨rfl, hb1⟩
  have hb1 := (Below.refl (w.heap.size + 3) V).trans (hb1.mono (Nat.le_of_eq hz.out.symm))
  obtain ⟨k0, k1, k2, k3, k4, k5, k6, k7⟩ := hcs.out _ hb1
  go_wp2_with fail
  refine (TK.out _).mono ?_
  rintro e w2 ⟨rfl, hb2⟩
  have hb2 := hb1.trans (hb2.mono (by have := hb1.size; have := hz.out; omega))
  clear hb1
  obtain ⟨k0, k1, k2, k3, k4, k5, k6, k7⟩ := hcs.out _ hb2
  go_wp2_with fail
  refine (OD.out _).mono ?_
  rintro e w3 ⟨rfl, m3, e3w⟩
  have hb3 := Lib.hid (show Below (w.heap.size + 3) V w3 by rw [e3w]; exact below_drewN hb2 m3)
  clear e3w hb2
  obtain ⟨k0, k1, k2, k3, k4, k5, k6, k7⟩ := hcs.out _ hb3.out
  go_wp2_with fail
  go_quiet (fail)
  go_wp2_with fail
  refine (T2.out _).mono ?_
  rintro e w4 ⟨rfl, q4⟩
  have hb4 := (below_drewN hb3.out _).trans (q4.mono (by have := hb3.out.size; have := hz.out; show _ ≤ w3.heap.size; omega))
  clear q4
  go_wp2_with fail
  refine (LV.out _).mono ?_
  rintro e w5 ⟨rfl, q5⟩
  go_wp2
  go_ret
  exact ⟨rfl, hb0.out.trans ((hb4.trans (q5.mono (by have := hb4.size; have := hz.out; omega))).mono (by omega))⟩
set_option maxRecDepth 100000 in
set_option maxHeartbeats 8000000 in
theorem wback_la (nu bi sc : Int) (sg : Bool) (x0 x1 v k : Int) (h : lbR nu bi sc = true) (g0 : 0 ≤ x0) (g1 : x0 ≤ 3) (g2 : 0 ≤ x1) (g3 : x1 ≤ 3) (cl : (qN sg bi sc v != qX v sc) = false) (hv : v ≤ -274877906944) (hk : k < 0) (w : World) : Calls Try.prog 6 #[.agg #[.int .i64 nu, .int .i64 bi, .int .i64 sc, .bool sg], .agg #[.int .i64 x0, .int .i64 x1], .agg #[.int .i64 v, .int .i64 k]] w fun e w' => e = .returned (.bool true) ∧ Below w.heap.size w w' := by
  obtain ⟨V, eV, hb0, hz, hcs⟩ := wlz_box w nu bi sc sg x0 x1 v k
  have s1 := (lb_ok h).2.2.2.2.1
  have PT := fun u => wput_ok nu bi sc sg x0 v x1 h g0 g1 g2 g3 u
  have TK := fun u => wtake_put nu bi sc sg x0 v x1 h g0 g1 g2 g3 u
  rw [cl] at PT
  have pb := parW_bd (wV nu x0 (tW sg bi sc v % 524288) x1)
  have OD := fun u => wodd (parW (wV nu x0 (tW sg bi sc v % 524288) x1)) pb.1 pb.2 u
  rw [parW_odd] at OD
  have d1 : decide (-274877906944 < v) = false := decide_eq_false (by omega)
  generalize parW (wV nu x0 (tW sg bi sc v % 524288) x1) = R at *
  generalize qN sg bi sc v * sc = V1 at *
  clear cl h
  obtain ⟨pb0, pb1⟩ := pb
  replace PT := Lib.hid PT
  replace TK := Lib.hid TK
  replace OD := Lib.hid OD
  have LV := Lib.hid (fun u => lives28 u)
  replace hb0 := Lib.hid hb0
  replace hz := Lib.hid hz
  replace hcs := Lib.hid hcs
  replace eV := Lib.hid eV
  go_enter Try.func6, Try.ntmps6
  go_wp2_with fail
  rw [← eV.out]
  obtain ⟨k0, k1, k2, k3, k4, k5, k6, k7⟩ := hcs.out _ (Below.refl _ _)
  go_wp2_with fail
  refine (PT.out _).mono ?_
  rintro e w1 ⟨rfl, hb1⟩
  have hb1 := (Below.refl (w.heap.size + 3) V).trans (hb1.mono (Nat.le_of_eq hz.out.symm))
  obtain ⟨k0, k1, k2, k3, k4, k5, k6, k7⟩ := hcs.out _ hb1
  go_wp2_with fail
  refine (TK.out _).mono ?_
  rintro e w2 ⟨rfl, hb2⟩
  have hb2 := hb1.trans (hb2.mono (by have := hb1.size; have := hz.out; omega))
  clear hb1
  obtain ⟨k0, k1, k2, k3, k4, k5, k6, k7⟩ := hcs.out _ hb2
  go_wp2_with fail
  refine (OD.out _).mono ?_
  rintro e w3 ⟨rfl, m3, e3w⟩
  have hb3 := Lib.hid (show Below (w.heap.size + 3) V w3 by rw [e3w]; exact below_drewN hb2 m3)
  clear e3w hb2
  obtain ⟨k0, k1, k2, k3, k4, k5, k6, k7⟩ := hcs.out _ hb3.out
  go_wp2_with fail
  refine region_moves (fun u => u.cell? ⟨w.heap.size, 0, none⟩ = some (.int .i64 nu) ∧ u.cell? ⟨w.heap.size, 1, none⟩ = some (.int .i64 bi) ∧ u.cell? ⟨w.heap.size, 2, none⟩ = some (.int .i64 sc) ∧ u.cell? ⟨w.heap.size, 3, none⟩ = some (.bool sg) ∧ u.cell? ⟨w.heap.size + 1, 0, none⟩ = some (.int .i64 x0) ∧ u.cell? ⟨w.heap.size + 1, 1, none⟩ = some (.int .i64 x1) ∧ u.cell? ⟨w.heap.size + 2, 0, none⟩ = some (.int .i64 v) ∧ u.cell? ⟨w.heap.size + 2, 1, none⟩ = some (.int .i64 k)) [] [(.free, 0), (.free, 1), (.free, 2), (.free, 3), (.take, 4), (.free, 5), (.free, 6), (.free, 7), (.free, 8), (.take, 9), (.free, 10), (.free, 11), (.free, 12), (.free, 13), (.free, 14), (.take, 15), (.free, 16), (.free, 19), (.take, 20), (.step, 17), (.free, 18), (.free, 21), (.free, 22)] _ (by kernel_rfl) (by kernel_rfl) (by kernel_rfl) (by kernel_rfl) (by decide) rfl (fun _ _ _ _ _ h => h) ?_
  simp only [List.filterMap_cons, List.filterMap_nil, List.getElem?_toArray, List.getElem?_cons_zero, List.getElem?_cons_succ, Option.map_some]
  iterate 4
    first
      | (refine mv_free ?_ (Or.inl ⟨by rfl, ?_⟩) (⟨k0, k1, k2, k3, k4, k5, k6, k7⟩) ?_
         rotate_left 1
         · intro u
           go_simp
           try simp only [d1]
           try with_reducible rfl
         simp only [Act.put, List.setIfInBounds_toArray, List.set_cons_zero, List.set_cons_succ])
      | (refine mv_free _ (Or.inr ⟨by rfl, rfl⟩) (⟨k0, k1, k2, k3, k4, k5, k6, k7⟩) ?_
         simp only [Act.put, List.setIfInBounds_toArray, List.set_cons_zero, List.set_cons_succ])
  iterate 1
    first
      | (refine mv_take ?_ (Or.inl ⟨by rfl, ?_⟩) (⟨k0, k1, k2, k3, k4, k5, k6, k7⟩) ?_
         rotate_left 1
         · intro u hu
           (try dsimp only at hu)
           go_simp
           try with_reducible rfl
         simp only [Act.put, List.setIfInBounds_toArray, List.set_cons_zero, List.set_cons_succ])
      | (refine mv_take _ (Or.inr ⟨by rfl, rfl⟩) (⟨k0, k1, k2, k3, k4, k5, k6, k7⟩) ?_
         simp only [Act.put, List.setIfInBounds_toArray, List.set_cons_zero, List.set_cons_succ])
  iterate 4
    first
      | (refine mv_free ?_ (Or.inl ⟨by rfl, ?_⟩) (⟨k0, k1, k2, k3, k4, k5, k6, k7⟩) ?_
         rotate_left 1
         · intro u
           go_simp
           try simp only [d1]
           try with_reducible rfl
         simp only [Act.put, List.setIfInBounds_toArray, List.set_cons_zero, List.set_cons_succ])
      | (refine mv_free _ (Or.inr ⟨by rfl, rfl⟩) (⟨k0, k1, k2, k3, k4, k5, k6, k7⟩) ?_
         simp only [Act.put, List.setIfInBounds_toArray, List.set_cons_zero, List.set_cons_succ])
  iterate 1
    first
      | (refine mv_take ?_ (Or.inl ⟨by rfl, ?_⟩) (⟨k0, k1, k2, k3, k4, k5, k6, k7⟩) ?_
         rotate_left 1
         · intro u hu
           (try dsimp only at hu)
           go_simp
           try with_reducible rfl
         simp only [Act.put, List.setIfInBounds_toArray, List.set_cons_zero, List.set_cons_succ])
      | (refine mv_take _ (Or.inr ⟨by rfl, rfl⟩) (⟨k0, k1, k2, k3, k4, k5, k6, k7⟩) ?_
         simp only [Act.put, List.setIfInBounds_toArray, List.set_cons_zero, List.set_cons_succ])
  iterate 5
    first
      | (refine mv_free ?_ (Or.inl ⟨by rfl, ?_⟩) (⟨k0, k1, k2, k3, k4, k5, k6, k7⟩) ?_
         rotate_left 1
         · intro u
           go_simp
           try simp only [d1]
           try with_reducible rfl
         simp only [Act.put, List.setIfInBounds_toArray, List.set_cons_zero, List.set_cons_succ])
      | (refine mv_free _ (Or.inr ⟨by rfl, rfl⟩) (⟨k0, k1, k2, k3, k4, k5, k6, k7⟩) ?_
         simp only [Act.put, List.setIfInBounds_toArray, List.set_cons_zero, List.set_cons_succ])
  iterate 1
    first
      | (refine mv_take ?_ (Or.inl ⟨by rfl, ?_⟩) (⟨k0, k1, k2, k3, k4, k5, k6, k7⟩) ?_
         rotate_left 1
         · intro u hu
           (try dsimp only at hu)
           go_simp
           try with_reducible rfl
         simp only [Act.put, List.setIfInBounds_toArray, List.set_cons_zero, List.set_cons_succ])
      | (refine mv_take _ (Or.inr ⟨by rfl, rfl⟩) (⟨k0, k1, k2, k3, k4, k5, k6, k7⟩) ?_
         simp only [Act.put, List.setIfInBounds_toArray, List.set_cons_zero, List.set_cons_succ])
  iterate 2
    first
      | (refine mv_free ?_ (Or.inl ⟨by rfl, ?_⟩) (⟨k0, k1, k2, k3, k4, k5, k6, k7⟩) ?_
         rotate_left 1
         · intro u
           go_simp
           try simp only [d1]
           try with_reducible rfl
         simp only [Act.put, List.setIfInBounds_toArray, List.set_cons_zero, List.set_cons_succ])
      | (refine mv_free _ (Or.inr ⟨by rfl, rfl⟩) (⟨k0, k1, k2, k3, k4, k5, k6, k7⟩) ?_
         simp only [Act.put, List.setIfInBounds_toArray, List.set_cons_zero, List.set_cons_succ])
  iterate 1
    first
      | (refine mv_take ?_ (Or.inl ⟨by rfl, ?_⟩) (⟨k0, k1, k2, k3, k4, k5, k6, k7⟩) ?_
         rotate_left 1
         · intro u hu
           (try dsimp only at hu)
           go_simp
           try with_reducible rfl
         simp only [Act.put, List.setIfInBounds_toArray, List.set_cons_zero, List.set_cons_succ])
      | (refine mv_take _ (Or.inr ⟨by rfl, rfl⟩) (⟨k0, k1, k2, k3, k4, k5, k6, k7⟩) ?_
         simp only [Act.put, List.setIfInBounds_toArray, List.set_cons_zero, List.set_cons_succ])
  refine mv_step (fun K hK => ?_)
  go_simp
  refine hK.out _ _ _ (fun u hu => hu) (⟨k0, k1, k2, k3, k4, k5, k6, k7⟩) ?_
  clear hK K
  iterate 3
    first
      | (refine mv_free ?_ (Or.inl ⟨by rfl, ?_⟩) (⟨k0, k1, k2, k3, k4, k5, k6, k7⟩) ?_
         rotate_left 1
         · intro u
           go_simp
           try simp only [d1]
           try with_reducible rfl
         simp only [Act.put, List.setIfInBounds_toArray, List.set_cons_zero, List.set_cons_succ])
      | (refine mv_free _ (Or.inr ⟨by rfl, rfl⟩) (⟨k0, k1, k2, k3, k4, k5, k6, k7⟩) ?_
         simp only [Act.put, List.setIfInBounds_toArray, List.set_cons_zero, List.set_cons_succ])
  refine mv_done ?_
  go_wp2_with fail
  refine (LV.out _).mono ?_
  rintro e w4 ⟨rfl, q4⟩
  go_wp2
  go_ret
  exact ⟨rfl, hb0.out.trans (((below_drewN hb3.out _).trans (q4.mono (by have := hb3.out.size; have := hz.out; show _ ≤ w3.heap.size; omega))).mono (by omega))⟩
set_option maxRecDepth 100000 in
set_option maxHeartbeats 8000000 in
theorem wback_lb (nu bi sc : Int) (sg : Bool) (x0 x1 v k : Int) (h : lbR nu bi sc = true) (g0 : 0 ≤ x0) (g1 : x0 ≤ 3) (g2 : 0 ≤ x1) (g3 : x1 ≤ 3) (cl : (qN sg bi sc v != qX v sc) = false) (hv : v ≤ -274877906944) (hk : 31 < k) (w : World) : Calls Try.prog 6 #[.agg #[.int .i64 nu, .int .i64 bi, .int .i64 sc, .bool sg], .agg #[.int .i64 x0, .int .i64 x1], .agg #[.int .i64 v, .int .i64 k]] w fun e w' => e = .returned (.bool true) ∧ Below w.heap.size w w' := by
  obtain ⟨V, eV, hb0, hz, hcs⟩ := wlz_box w nu bi sc sg x0 x1 v k
  have s1 := (lb_ok h).2.2.2.2.1
  have PT := fun u => wput_ok nu bi sc sg x0 v x1 h g0 g1 g2 g3 u
  have TK := fun u => wtake_put nu bi sc sg x0 v x1 h g0 g1 g2 g3 u
  rw [cl] at PT
  have pb := parW_bd (wV nu x0 (tW sg bi sc v % 524288) x1)
  have OD := fun u => wodd (parW (wV nu x0 (tW sg bi sc v % 524288) x1)) pb.1 pb.2 u
  rw [parW_odd] at OD
  have d1 : decide (-274877906944 < v) = false := decide_eq_false (by omega)
  generalize parW (wV nu x0 (tW sg bi sc v % 524288) x1) = R at *
  generalize qN sg bi sc v * sc = V1 at *
  clear cl h
  obtain ⟨pb0, pb1⟩ := pb
  replace PT := Lib.hid PT
  replace TK := Lib.hid TK
  replace OD := Lib.hid OD
  have LV := Lib.hid (fun u => lives28 u)
  replace hb0 := Lib.hid hb0
  replace hz := Lib.hid hz
  replace hcs := Lib.hid hcs
  replace eV := Lib.hid eV
  go_enter Try.func6, Try.ntmps6
  go_wp2_with fail
  rw [← eV.out]
  obtain ⟨k0, k1, k2, k3, k4, k5, k6, k7⟩ := hcs.out _ (Below.refl _ _)
  go_wp2_with fail
  refine (PT.out _).mono ?_
  rintro e w1 ⟨rfl, hb1⟩
  have hb1 := (Below.refl (w.heap.size + 3) V).trans (hb1.mono (Nat.le_of_eq hz.out.symm))
  obtain ⟨k0, k1, k2, k3, k4, k5, k6, k7⟩ := hcs.out _ hb1
  go_wp2_with fail
  refine (TK.out _).mono ?_
  rintro e w2 ⟨rfl, hb2⟩
  have hb2 := hb1.trans (hb2.mono (by have := hb1.size; have := hz.out; omega))
  clear hb1
  obtain ⟨k0, k1, k2, k3, k4, k5, k6, k7⟩ := hcs.out _ hb2
  go_wp2_with fail
  refine (OD.out _).mono ?_
  rintro e w3 ⟨rfl, m3, e3w⟩
  have hb3 := Lib.hid (show Below (w.heap.size + 3) V w3 by rw [e3w]; exact below_drewN hb2 m3)
  clear e3w hb2
  obtain ⟨k0, k1, k2, k3, k4, k5, k6, k7⟩ := hcs.out _ hb3.out
  go_wp2_with fail
  refine region_moves (fun u => u.cell? ⟨w.heap.size, 0, none⟩ = some (.int .i64 nu) ∧ u.cell? ⟨w.heap.size, 1, none⟩ = some (.int .i64 bi) ∧ u.cell? ⟨w.heap.size, 2, none⟩ = some (.int .i64 sc) ∧ u.cell? ⟨w.heap.size, 3, none⟩ = some (.bool sg) ∧ u.cell? ⟨w.heap.size + 1, 0, none⟩ = some (.int .i64 x0) ∧ u.cell? ⟨w.heap.size + 1, 1, none⟩ = some (.int .i64 x1) ∧ u.cell? ⟨w.heap.size + 2, 0, none⟩ = some (.int .i64 v) ∧ u.cell? ⟨w.heap.size + 2, 1, none⟩ = some (.int .i64 k)) [] [(.free, 0), (.free, 1), (.free, 2), (.free, 3), (.take, 4), (.free, 5), (.free, 6), (.free, 7), (.free, 8), (.take, 9), (.free, 10), (.free, 11), (.free, 12), (.free, 13), (.free, 14), (.take, 15), (.free, 16), (.free, 19), (.take, 20), (.step, 17), (.free, 18), (.free, 21), (.free, 22)] _ (by kernel_rfl) (by kernel_rfl) (by kernel_rfl) (by kernel_rfl) (by decide) rfl (fun _ _ _ _ _ h => h) ?_
  simp only [List.filterMap_cons, List.filterMap_nil, List.getElem?_toArray, List.getElem?_cons_zero, List.getElem?_cons_succ, Option.map_some]
  iterate 4
    first
      | (refine mv_free ?_ (Or.inl ⟨by rfl, ?_⟩) (⟨k0, k1, k2, k3, k4, k5, k6, k7⟩) ?_
         rotate_left 1
         · intro u
           go_simp
           try simp only [d1]
           try with_reducible rfl
         simp only [Act.put, List.setIfInBounds_toArray, List.set_cons_zero, List.set_cons_succ])
      | (refine mv_free _ (Or.inr ⟨by rfl, rfl⟩) (⟨k0, k1, k2, k3, k4, k5, k6, k7⟩) ?_
         simp only [Act.put, List.setIfInBounds_toArray, List.set_cons_zero, List.set_cons_succ])
  iterate 1
    first
      | (refine mv_take ?_ (Or.inl ⟨by rfl, ?_⟩) (⟨k0, k1, k2, k3, k4, k5, k6, k7⟩) ?_
         rotate_left 1
         · intro u hu
           (try dsimp only at hu)
           go_simp
           try with_reducible rfl
         simp only [Act.put, List.setIfInBounds_toArray, List.set_cons_zero, List.set_cons_succ])
      | (refine mv_take _ (Or.inr ⟨by rfl, rfl⟩) (⟨k0, k1, k2, k3, k4, k5, k6, k7⟩) ?_
         simp only [Act.put, List.setIfInBounds_toArray, List.set_cons_zero, List.set_cons_succ])
  iterate 4
    first
      | (refine mv_free ?_ (Or.inl ⟨by rfl, ?_⟩) (⟨k0, k1, k2, k3, k4, k5, k6, k7⟩) ?_
         rotate_left 1
         · intro u
           go_simp
           try simp only [d1]
           try with_reducible rfl
         simp only [Act.put, List.setIfInBounds_toArray, List.set_cons_zero, List.set_cons_succ])
      | (refine mv_free _ (Or.inr ⟨by rfl, rfl⟩) (⟨k0, k1, k2, k3, k4, k5, k6, k7⟩) ?_
         simp only [Act.put, List.setIfInBounds_toArray, List.set_cons_zero, List.set_cons_succ])
  iterate 1
    first
      | (refine mv_take ?_ (Or.inl ⟨by rfl, ?_⟩) (⟨k0, k1, k2, k3, k4, k5, k6, k7⟩) ?_
         rotate_left 1
         · intro u hu
           (try dsimp only at hu)
           go_simp
           try with_reducible rfl
         simp only [Act.put, List.setIfInBounds_toArray, List.set_cons_zero, List.set_cons_succ])
      | (refine mv_take _ (Or.inr ⟨by rfl, rfl⟩) (⟨k0, k1, k2, k3, k4, k5, k6, k7⟩) ?_
         simp only [Act.put, List.setIfInBounds_toArray, List.set_cons_zero, List.set_cons_succ])
  iterate 5
    first
      | (refine mv_free ?_ (Or.inl ⟨by rfl, ?_⟩) (⟨k0, k1, k2, k3, k4, k5, k6, k7⟩) ?_
         rotate_left 1
         · intro u
           go_simp
           try simp only [d1]
           try with_reducible rfl
         simp only [Act.put, List.setIfInBounds_toArray, List.set_cons_zero, List.set_cons_succ])
      | (refine mv_free _ (Or.inr ⟨by rfl, rfl⟩) (⟨k0, k1, k2, k3, k4, k5, k6, k7⟩) ?_
         simp only [Act.put, List.setIfInBounds_toArray, List.set_cons_zero, List.set_cons_succ])
  iterate 1
    first
      | (refine mv_take ?_ (Or.inl ⟨by rfl, ?_⟩) (⟨k0, k1, k2, k3, k4, k5, k6, k7⟩) ?_
         rotate_left 1
         · intro u hu
           (try dsimp only at hu)
           go_simp
           try with_reducible rfl
         simp only [Act.put, List.setIfInBounds_toArray, List.set_cons_zero, List.set_cons_succ])
      | (refine mv_take _ (Or.inr ⟨by rfl, rfl⟩) (⟨k0, k1, k2, k3, k4, k5, k6, k7⟩) ?_
         simp only [Act.put, List.setIfInBounds_toArray, List.set_cons_zero, List.set_cons_succ])
  iterate 2
    first
      | (refine mv_free ?_ (Or.inl ⟨by rfl, ?_⟩) (⟨k0, k1, k2, k3, k4, k5, k6, k7⟩) ?_
         rotate_left 1
         · intro u
           go_simp
           try simp only [d1]
           try with_reducible rfl
         simp only [Act.put, List.setIfInBounds_toArray, List.set_cons_zero, List.set_cons_succ])
      | (refine mv_free _ (Or.inr ⟨by rfl, rfl⟩) (⟨k0, k1, k2, k3, k4, k5, k6, k7⟩) ?_
         simp only [Act.put, List.setIfInBounds_toArray, List.set_cons_zero, List.set_cons_succ])
  iterate 1
    first
      | (refine mv_take ?_ (Or.inl ⟨by rfl, ?_⟩) (⟨k0, k1, k2, k3, k4, k5, k6, k7⟩) ?_
         rotate_left 1
         · intro u hu
           (try dsimp only at hu)
           go_simp
           try with_reducible rfl
         simp only [Act.put, List.setIfInBounds_toArray, List.set_cons_zero, List.set_cons_succ])
      | (refine mv_take _ (Or.inr ⟨by rfl, rfl⟩) (⟨k0, k1, k2, k3, k4, k5, k6, k7⟩) ?_
         simp only [Act.put, List.setIfInBounds_toArray, List.set_cons_zero, List.set_cons_succ])
  refine mv_step (fun K hK => ?_)
  go_simp
  refine hK.out _ _ _ (fun u hu => hu) (⟨k0, k1, k2, k3, k4, k5, k6, k7⟩) ?_
  clear hK K
  iterate 3
    first
      | (refine mv_free ?_ (Or.inl ⟨by rfl, ?_⟩) (⟨k0, k1, k2, k3, k4, k5, k6, k7⟩) ?_
         rotate_left 1
         · intro u
           go_simp
           try simp only [d1]
           try with_reducible rfl
         simp only [Act.put, List.setIfInBounds_toArray, List.set_cons_zero, List.set_cons_succ])
      | (refine mv_free _ (Or.inr ⟨by rfl, rfl⟩) (⟨k0, k1, k2, k3, k4, k5, k6, k7⟩) ?_
         simp only [Act.put, List.setIfInBounds_toArray, List.set_cons_zero, List.set_cons_succ])
  refine mv_done ?_
  go_wp2_with fail
  refine (LV.out _).mono ?_
  rintro e w4 ⟨rfl, q4⟩
  go_wp2
  go_ret
  exact ⟨rfl, hb0.out.trans (((below_drewN hb3.out _).trans (q4.mono (by have := hb3.out.size; have := hz.out; show _ ≤ w3.heap.size; omega))).mono (by omega))⟩
set_option maxRecDepth 100000 in
set_option maxHeartbeats 8000000 in
theorem wback_li (nu bi sc : Int) (sg : Bool) (x0 x1 v k : Int) (h : lbR nu bi sc = true) (g0 : 0 ≤ x0) (g1 : x0 ≤ 3) (g2 : 0 ≤ x1) (g3 : x1 ≤ 3) (cl : (qN sg bi sc v != qX v sc) = false) (hv : v ≤ -274877906944) (hk0 : 0 ≤ k) (hk : k ≤ 31) (w : World) : Calls Try.prog 6 #[.agg #[.int .i64 nu, .int .i64 bi, .int .i64 sc, .bool sg], .agg #[.int .i64 x0, .int .i64 x1], .agg #[.int .i64 v, .int .i64 k]] w fun e w' => e = .returned (.bool true) ∧ Below w.heap.size w w' := by
  obtain ⟨V, eV, hb0, hz, hcs⟩ := wlz_box w nu bi sc sg x0 x1 v k
  have s1 := (lb_ok h).2.2.2.2.1
  have PT := fun u => wput_ok nu bi sc sg x0 v x1 h g0 g1 g2 g3 u
  have TK := fun u => wtake_put nu bi sc sg x0 v x1 h g0 g1 g2 g3 u
  rw [cl] at PT
  have pb := parW_bd (wV nu x0 (tW sg bi sc v % 524288) x1)
  have OD := fun u => wodd (parW (wV nu x0 (tW sg bi sc v % 524288) x1)) pb.1 pb.2 u
  rw [parW_odd] at OD
  obtain ⟨z0, z1, zo⟩ := xor_flip pb.1 pb.2 k.toNat (by omega) (parW_odd (wV nu x0 (tW sg bi sc v % 524288) x1))
  have T2 := fun u => wtake_4 nu bi sc sg (bits .xor .u32 (parW (wV nu x0 (tW sg bi sc v % 524288) x1)) (2 ^ k.toNat)) z0 z1 h zo u
  clear zo
  generalize hZ : bits .xor .u32 (parW (wV nu x0 (tW sg bi sc v % 524288) x1)) (2 ^ k.toNat) = Zx at *
  have kb : 1 ≤ (2 : Int) ^ k.toNat ∧ (2 : Int) ^ k.toNat ≤ 2147483648 := two_bd k.toNat (by omega)
  have km : min k.toNat 32 = k.toNat := by omega
  have ek : (2 : Int) ^ k.toNat % 4294967296 = 2 ^ k.toNat := by omega
  replace T2 := Lib.hid T2
  have d1 : decide (-274877906944 < v) = false := decide_eq_false (by omega)
  generalize parW (wV nu x0 (tW sg bi sc v % 524288) x1) = R at *
  generalize qN sg bi sc v * sc = V1 at *
  clear cl h
  obtain ⟨pb0, pb1⟩ := pb
  replace PT := Lib.hid PT
  replace TK := Lib.hid TK
  replace OD := Lib.hid OD
  have LV := Lib.hid (fun u => lives28 u)
  replace hb0 := Lib.hid hb0
  replace hz := Lib.hid hz
  replace hcs := Lib.hid hcs
  replace eV := Lib.hid eV
  go_enter Try.func6, Try.ntmps6
  go_wp2_with fail
  rw [← eV.out]
  obtain ⟨k0, k1, k2, k3, k4, k5, k6, k7⟩ := hcs.out _ (Below.refl _ _)
  go_wp2_with fail
  refine (PT.out _).mono ?_
  rintro e w1 ⟨rfl, hb1⟩
  have hb1 := (Below.refl (w.heap.size + 3) V).trans (hb1.mono (Nat.le_of_eq hz.out.symm))
  obtain ⟨k0, k1, k2, k3, k4, k5, k6, k7⟩ := hcs.out _ hb1
  go_wp2_with fail
  refine (TK.out _).mono ?_
  rintro e w2 ⟨rfl, hb2⟩
  have hb2 := hb1.trans (hb2.mono (by have := hb1.size; have := hz.out; omega))
  clear hb1
  obtain ⟨k0, k1, k2, k3, k4, k5, k6, k7⟩ := hcs.out _ hb2
  go_wp2_with fail
  refine (OD.out _).mono ?_
  rintro e w3 ⟨rfl, m3, e3w⟩
  have hb3 := Lib.hid (show Below (w.heap.size + 3) V w3 by rw [e3w]; exact below_drewN hb2 m3)
  clear e3w hb2
  obtain ⟨k0, k1, k2, k3, k4, k5, k6, k7⟩ := hcs.out _ hb3.out
  go_wp2_with fail
  refine region_moves (fun u => u.cell? ⟨w.heap.size, 0, none⟩ = some (.int .i64 nu) ∧ u.cell? ⟨w.heap.size, 1, none⟩ = some (.int .i64 bi) ∧ u.cell? ⟨w.heap.size, 2, none⟩ = some (.int .i64 sc) ∧ u.cell? ⟨w.heap.size, 3, none⟩ = some (.bool sg) ∧ u.cell? ⟨w.heap.size + 1, 0, none⟩ = some (.int .i64 x0) ∧ u.cell? ⟨w.heap.size + 1, 1, none⟩ = some (.int .i64 x1) ∧ u.cell? ⟨w.heap.size + 2, 0, none⟩ = some (.int .i64 v) ∧ u.cell? ⟨w.heap.size + 2, 1, none⟩ = some (.int .i64 k)) [] [(.free, 0), (.free, 1), (.free, 2), (.free, 3), (.take, 4), (.free, 5), (.free, 6), (.free, 7), (.free, 8), (.take, 9), (.free, 10), (.free, 11), (.free, 12), (.free, 13), (.free, 14), (.take, 15), (.free, 16), (.free, 19), (.take, 20), (.step, 17), (.free, 18), (.free, 21), (.free, 22)] _ (by kernel_rfl) (by kernel_rfl) (by kernel_rfl) (by kernel_rfl) (by decide) rfl (fun _ _ _ _ _ h => h) ?_
  simp only [List.filterMap_cons, List.filterMap_nil, List.getElem?_toArray, List.getElem?_cons_zero, List.getElem?_cons_succ, Option.map_some]
  iterate 4
    first
      | (refine mv_free ?_ (Or.inl ⟨by rfl, ?_⟩) (⟨k0, k1, k2, k3, k4, k5, k6, k7⟩) ?_
         rotate_left 1
         · intro u
           go_simp
           try simp only [d1]
           try with_reducible rfl
         simp only [Act.put, List.setIfInBounds_toArray, List.set_cons_zero, List.set_cons_succ])
      | (refine mv_free _ (Or.inr ⟨by rfl, rfl⟩) (⟨k0, k1, k2, k3, k4, k5, k6, k7⟩) ?_
         simp only [Act.put, List.setIfInBounds_toArray, List.set_cons_zero, List.set_cons_succ])
  iterate 1
    first
      | (refine mv_take ?_ (Or.inl ⟨by rfl, ?_⟩) (⟨k0, k1, k2, k3, k4, k5, k6, k7⟩) ?_
         rotate_left 1
         · intro u hu
           (try dsimp only at hu)
           go_simp
           try with_reducible rfl
         simp only [Act.put, List.setIfInBounds_toArray, List.set_cons_zero, List.set_cons_succ])
      | (refine mv_take _ (Or.inr ⟨by rfl, rfl⟩) (⟨k0, k1, k2, k3, k4, k5, k6, k7⟩) ?_
         simp only [Act.put, List.setIfInBounds_toArray, List.set_cons_zero, List.set_cons_succ])
  iterate 4
    first
      | (refine mv_free ?_ (Or.inl ⟨by rfl, ?_⟩) (⟨k0, k1, k2, k3, k4, k5, k6, k7⟩) ?_
         rotate_left 1
         · intro u
           go_simp
           try simp only [d1]
           try with_reducible rfl
         simp only [Act.put, List.setIfInBounds_toArray, List.set_cons_zero, List.set_cons_succ])
      | (refine mv_free _ (Or.inr ⟨by rfl, rfl⟩) (⟨k0, k1, k2, k3, k4, k5, k6, k7⟩) ?_
         simp only [Act.put, List.setIfInBounds_toArray, List.set_cons_zero, List.set_cons_succ])
  iterate 1
    first
      | (refine mv_take ?_ (Or.inl ⟨by rfl, ?_⟩) (⟨k0, k1, k2, k3, k4, k5, k6, k7⟩) ?_
         rotate_left 1
         · intro u hu
           (try dsimp only at hu)
           go_simp
           try with_reducible rfl
         simp only [Act.put, List.setIfInBounds_toArray, List.set_cons_zero, List.set_cons_succ])
      | (refine mv_take _ (Or.inr ⟨by rfl, rfl⟩) (⟨k0, k1, k2, k3, k4, k5, k6, k7⟩) ?_
         simp only [Act.put, List.setIfInBounds_toArray, List.set_cons_zero, List.set_cons_succ])
  iterate 5
    first
      | (refine mv_free ?_ (Or.inl ⟨by rfl, ?_⟩) (⟨k0, k1, k2, k3, k4, k5, k6, k7⟩) ?_
         rotate_left 1
         · intro u
           go_simp
           try simp only [d1]
           try with_reducible rfl
         simp only [Act.put, List.setIfInBounds_toArray, List.set_cons_zero, List.set_cons_succ])
      | (refine mv_free _ (Or.inr ⟨by rfl, rfl⟩) (⟨k0, k1, k2, k3, k4, k5, k6, k7⟩) ?_
         simp only [Act.put, List.setIfInBounds_toArray, List.set_cons_zero, List.set_cons_succ])
  iterate 1
    first
      | (refine mv_take ?_ (Or.inl ⟨by rfl, ?_⟩) (⟨k0, k1, k2, k3, k4, k5, k6, k7⟩) ?_
         rotate_left 1
         · intro u hu
           (try dsimp only at hu)
           go_simp
           try with_reducible rfl
         simp only [Act.put, List.setIfInBounds_toArray, List.set_cons_zero, List.set_cons_succ])
      | (refine mv_take _ (Or.inr ⟨by rfl, rfl⟩) (⟨k0, k1, k2, k3, k4, k5, k6, k7⟩) ?_
         simp only [Act.put, List.setIfInBounds_toArray, List.set_cons_zero, List.set_cons_succ])
  iterate 2
    first
      | (refine mv_free ?_ (Or.inl ⟨by rfl, ?_⟩) (⟨k0, k1, k2, k3, k4, k5, k6, k7⟩) ?_
         rotate_left 1
         · intro u
           go_simp
           try simp only [d1]
           try with_reducible rfl
         simp only [Act.put, List.setIfInBounds_toArray, List.set_cons_zero, List.set_cons_succ])
      | (refine mv_free _ (Or.inr ⟨by rfl, rfl⟩) (⟨k0, k1, k2, k3, k4, k5, k6, k7⟩) ?_
         simp only [Act.put, List.setIfInBounds_toArray, List.set_cons_zero, List.set_cons_succ])
  iterate 1
    first
      | (refine mv_take ?_ (Or.inl ⟨by rfl, ?_⟩) (⟨k0, k1, k2, k3, k4, k5, k6, k7⟩) ?_
         rotate_left 1
         · intro u hu
           (try dsimp only at hu)
           go_simp
           try with_reducible rfl
         simp only [Act.put, List.setIfInBounds_toArray, List.set_cons_zero, List.set_cons_succ])
      | (refine mv_take _ (Or.inr ⟨by rfl, rfl⟩) (⟨k0, k1, k2, k3, k4, k5, k6, k7⟩) ?_
         simp only [Act.put, List.setIfInBounds_toArray, List.set_cons_zero, List.set_cons_succ])
  refine mv_step (fun K hK => ?_)
  go_simp
  refine hK.out _ _ _ (fun u hu => hu) (⟨k0, k1, k2, k3, k4, k5, k6, k7⟩) ?_
  clear hK K
  iterate 3
    first
      | (refine mv_free ?_ (Or.inl ⟨by rfl, ?_⟩) (⟨k0, k1, k2, k3, k4, k5, k6, k7⟩) ?_
         rotate_left 1
         · intro u
           go_simp
           try simp only [d1]
           try with_reducible rfl
         simp only [Act.put, List.setIfInBounds_toArray, List.set_cons_zero, List.set_cons_succ])
      | (refine mv_free _ (Or.inr ⟨by rfl, rfl⟩) (⟨k0, k1, k2, k3, k4, k5, k6, k7⟩) ?_
         simp only [Act.put, List.setIfInBounds_toArray, List.set_cons_zero, List.set_cons_succ])
  refine mv_done ?_
  go_wp2_with fail
  refine (T2.out _).mono ?_
  rintro e w4 ⟨rfl, q4⟩
  have hb4 := (below_drewN hb3.out _).trans (q4.mono (by have := hb3.out.size; have := hz.out; show _ ≤ w3.heap.size; omega))
  clear q4
  go_wp2_with fail
  refine (LV.out _).mono ?_
  rintro e w5 ⟨rfl, q5⟩
  go_wp2
  go_ret
  exact ⟨rfl, hb0.out.trans ((hb4.trans (q5.mono (by have := hb4.size; have := hz.out; omega))).mono (by omega))⟩
set_option maxRecDepth 100000 in
set_option maxHeartbeats 8000000 in
theorem wback_ua (nu bi sc : Int) (sg : Bool) (x0 x1 v k : Int) (h : lbR nu bi sc = true) (g0 : 0 ≤ x0) (g1 : x0 ≤ 3) (g2 : 0 ≤ x1) (g3 : x1 ≤ 3) (cl : (qN sg bi sc v != qX v sc) = false) (hv0 : -274877906944 < v) (hv : 274877906944 ≤ v) (hk : k < 0) (w : World) : Calls Try.prog 6 #[.agg #[.int .i64 nu, .int .i64 bi, .int .i64 sc, .bool sg], .agg #[.int .i64 x0, .int .i64 x1], .agg #[.int .i64 v, .int .i64 k]] w fun e w' => e = .returned (.bool true) ∧ Below w.heap.size w w' := by
  obtain ⟨V, eV, hb0, hz, hcs⟩ := wlz_box w nu bi sc sg x0 x1 v k
  have s1 := (lb_ok h).2.2.2.2.1
  have PT := fun u => wput_ok nu bi sc sg x0 v x1 h g0 g1 g2 g3 u
  have TK := fun u => wtake_put nu bi sc sg x0 v x1 h g0 g1 g2 g3 u
  rw [cl] at PT
  have pb := parW_bd (wV nu x0 (tW sg bi sc v % 524288) x1)
  have OD := fun u => wodd (parW (wV nu x0 (tW sg bi sc v % 524288) x1)) pb.1 pb.2 u
  rw [parW_odd] at OD
  have d1 : decide (v < 274877906944) = false := decide_eq_false (by omega)
  generalize parW (wV nu x0 (tW sg bi sc v % 524288) x1) = R at *
  generalize qN sg bi sc v * sc = V1 at *
  clear cl h
  obtain ⟨pb0, pb1⟩ := pb
  replace PT := Lib.hid PT
  replace TK := Lib.hid TK
  replace OD := Lib.hid OD
  have LV := Lib.hid (fun u => lives28 u)
  replace hb0 := Lib.hid hb0
  replace hz := Lib.hid hz
  replace hcs := Lib.hid hcs
  replace eV := Lib.hid eV
  go_enter Try.func6, Try.ntmps6
  go_wp2_with fail
  rw [← eV.out]
  obtain ⟨k0, k1, k2, k3, k4, k5, k6, k7⟩ := hcs.out _ (Below.refl _ _)
  go_wp2_with fail
  refine (PT.out _).mono ?_
  rintro e w1 ⟨rfl, hb1⟩
  have hb1 := (Below.refl (w.heap.size + 3) V).trans (hb1.mono (Nat.le_of_eq hz.out.symm))
  obtain ⟨k0, k1, k2, k3, k4, k5, k6, k7⟩ := hcs.out _ hb1
  go_wp2_with fail
  refine (TK.out _).mono ?_
  rintro e w2 ⟨rfl, hb2⟩
  have hb2 := hb1.trans (hb2.mono (by have := hb1.size; have := hz.out; omega))
  clear hb1
  obtain ⟨k0, k1, k2, k3, k4, k5, k6, k7⟩ := hcs.out _ hb2
  go_wp2_with fail
  refine (OD.out _).mono ?_
  rintro e w3 ⟨rfl, m3, e3w⟩
  have hb3 := Lib.hid (show Below (w.heap.size + 3) V w3 by rw [e3w]; exact below_drewN hb2 m3)
  clear e3w hb2
  obtain ⟨k0, k1, k2, k3, k4, k5, k6, k7⟩ := hcs.out _ hb3.out
  go_wp2_with fail
  refine region_moves (fun u => u.cell? ⟨w.heap.size, 0, none⟩ = some (.int .i64 nu) ∧ u.cell? ⟨w.heap.size, 1, none⟩ = some (.int .i64 bi) ∧ u.cell? ⟨w.heap.size, 2, none⟩ = some (.int .i64 sc) ∧ u.cell? ⟨w.heap.size, 3, none⟩ = some (.bool sg) ∧ u.cell? ⟨w.heap.size + 1, 0, none⟩ = some (.int .i64 x0) ∧ u.cell? ⟨w.heap.size + 1, 1, none⟩ = some (.int .i64 x1) ∧ u.cell? ⟨w.heap.size + 2, 0, none⟩ = some (.int .i64 v) ∧ u.cell? ⟨w.heap.size + 2, 1, none⟩ = some (.int .i64 k)) [] [(.free, 0), (.free, 1), (.free, 2), (.free, 3), (.take, 4), (.free, 5), (.free, 6), (.free, 7), (.free, 8), (.take, 9), (.free, 10), (.free, 11), (.free, 12), (.free, 13), (.free, 14), (.take, 15), (.free, 16), (.free, 19), (.take, 20), (.step, 17), (.free, 18), (.free, 21), (.free, 22)] _ (by kernel_rfl) (by kernel_rfl) (by kernel_rfl) (by kernel_rfl) (by decide) rfl (fun _ _ _ _ _ h => h) ?_
  simp only [List.filterMap_cons, List.filterMap_nil, List.getElem?_toArray, List.getElem?_cons_zero, List.getElem?_cons_succ, Option.map_some]
  iterate 4
    first
      | (refine mv_free ?_ (Or.inl ⟨by rfl, ?_⟩) (⟨k0, k1, k2, k3, k4, k5, k6, k7⟩) ?_
         rotate_left 1
         · intro u
           go_simp
           try simp only [d1]
           try with_reducible rfl
         simp only [Act.put, List.setIfInBounds_toArray, List.set_cons_zero, List.set_cons_succ])
      | (refine mv_free _ (Or.inr ⟨by rfl, rfl⟩) (⟨k0, k1, k2, k3, k4, k5, k6, k7⟩) ?_
         simp only [Act.put, List.setIfInBounds_toArray, List.set_cons_zero, List.set_cons_succ])
  iterate 1
    first
      | (refine mv_take ?_ (Or.inl ⟨by rfl, ?_⟩) (⟨k0, k1, k2, k3, k4, k5, k6, k7⟩) ?_
         rotate_left 1
         · intro u hu
           (try dsimp only at hu)
           go_simp
           try with_reducible rfl
         simp only [Act.put, List.setIfInBounds_toArray, List.set_cons_zero, List.set_cons_succ])
      | (refine mv_take _ (Or.inr ⟨by rfl, rfl⟩) (⟨k0, k1, k2, k3, k4, k5, k6, k7⟩) ?_
         simp only [Act.put, List.setIfInBounds_toArray, List.set_cons_zero, List.set_cons_succ])
  iterate 4
    first
      | (refine mv_free ?_ (Or.inl ⟨by rfl, ?_⟩) (⟨k0, k1, k2, k3, k4, k5, k6, k7⟩) ?_
         rotate_left 1
         · intro u
           go_simp
           try simp only [d1]
           try with_reducible rfl
         simp only [Act.put, List.setIfInBounds_toArray, List.set_cons_zero, List.set_cons_succ])
      | (refine mv_free _ (Or.inr ⟨by rfl, rfl⟩) (⟨k0, k1, k2, k3, k4, k5, k6, k7⟩) ?_
         simp only [Act.put, List.setIfInBounds_toArray, List.set_cons_zero, List.set_cons_succ])
  iterate 1
    first
      | (refine mv_take ?_ (Or.inl ⟨by rfl, ?_⟩) (⟨k0, k1, k2, k3, k4, k5, k6, k7⟩) ?_
         rotate_left 1
         · intro u hu
           (try dsimp only at hu)
           go_simp
           try with_reducible rfl
         simp only [Act.put, List.setIfInBounds_toArray, List.set_cons_zero, List.set_cons_succ])
      | (refine mv_take _ (Or.inr ⟨by rfl, rfl⟩) (⟨k0, k1, k2, k3, k4, k5, k6, k7⟩) ?_
         simp only [Act.put, List.setIfInBounds_toArray, List.set_cons_zero, List.set_cons_succ])
  iterate 5
    first
      | (refine mv_free ?_ (Or.inl ⟨by rfl, ?_⟩) (⟨k0, k1, k2, k3, k4, k5, k6, k7⟩) ?_
         rotate_left 1
         · intro u
           go_simp
           try simp only [d1]
           try with_reducible rfl
         simp only [Act.put, List.setIfInBounds_toArray, List.set_cons_zero, List.set_cons_succ])
      | (refine mv_free _ (Or.inr ⟨by rfl, rfl⟩) (⟨k0, k1, k2, k3, k4, k5, k6, k7⟩) ?_
         simp only [Act.put, List.setIfInBounds_toArray, List.set_cons_zero, List.set_cons_succ])
  iterate 1
    first
      | (refine mv_take ?_ (Or.inl ⟨by rfl, ?_⟩) (⟨k0, k1, k2, k3, k4, k5, k6, k7⟩) ?_
         rotate_left 1
         · intro u hu
           (try dsimp only at hu)
           go_simp
           try with_reducible rfl
         simp only [Act.put, List.setIfInBounds_toArray, List.set_cons_zero, List.set_cons_succ])
      | (refine mv_take _ (Or.inr ⟨by rfl, rfl⟩) (⟨k0, k1, k2, k3, k4, k5, k6, k7⟩) ?_
         simp only [Act.put, List.setIfInBounds_toArray, List.set_cons_zero, List.set_cons_succ])
  iterate 2
    first
      | (refine mv_free ?_ (Or.inl ⟨by rfl, ?_⟩) (⟨k0, k1, k2, k3, k4, k5, k6, k7⟩) ?_
         rotate_left 1
         · intro u
           go_simp
           try simp only [d1]
           try with_reducible rfl
         simp only [Act.put, List.setIfInBounds_toArray, List.set_cons_zero, List.set_cons_succ])
      | (refine mv_free _ (Or.inr ⟨by rfl, rfl⟩) (⟨k0, k1, k2, k3, k4, k5, k6, k7⟩) ?_
         simp only [Act.put, List.setIfInBounds_toArray, List.set_cons_zero, List.set_cons_succ])
  iterate 1
    first
      | (refine mv_take ?_ (Or.inl ⟨by rfl, ?_⟩) (⟨k0, k1, k2, k3, k4, k5, k6, k7⟩) ?_
         rotate_left 1
         · intro u hu
           (try dsimp only at hu)
           go_simp
           try with_reducible rfl
         simp only [Act.put, List.setIfInBounds_toArray, List.set_cons_zero, List.set_cons_succ])
      | (refine mv_take _ (Or.inr ⟨by rfl, rfl⟩) (⟨k0, k1, k2, k3, k4, k5, k6, k7⟩) ?_
         simp only [Act.put, List.setIfInBounds_toArray, List.set_cons_zero, List.set_cons_succ])
  refine mv_step (fun K hK => ?_)
  go_simp
  refine hK.out _ _ _ (fun u hu => hu) (⟨k0, k1, k2, k3, k4, k5, k6, k7⟩) ?_
  clear hK K
  iterate 3
    first
      | (refine mv_free ?_ (Or.inl ⟨by rfl, ?_⟩) (⟨k0, k1, k2, k3, k4, k5, k6, k7⟩) ?_
         rotate_left 1
         · intro u
           go_simp
           try simp only [d1]
           try with_reducible rfl
         simp only [Act.put, List.setIfInBounds_toArray, List.set_cons_zero, List.set_cons_succ])
      | (refine mv_free _ (Or.inr ⟨by rfl, rfl⟩) (⟨k0, k1, k2, k3, k4, k5, k6, k7⟩) ?_
         simp only [Act.put, List.setIfInBounds_toArray, List.set_cons_zero, List.set_cons_succ])
  refine mv_done ?_
  go_wp2_with fail
  refine (LV.out _).mono ?_
  rintro e w4 ⟨rfl, q4⟩
  go_wp2
  go_ret
  exact ⟨rfl, hb0.out.trans (((below_drewN hb3.out _).trans (q4.mono (by have := hb3.out.size; have := hz.out; show _ ≤ w3.heap.size; omega))).mono (by omega))⟩
set_option maxRecDepth 100000 in
set_option maxHeartbeats 8000000 in
theorem wback_ub (nu bi sc : Int) (sg : Bool) (x0 x1 v k : Int) (h : lbR nu bi sc = true) (g0 : 0 ≤ x0) (g1 : x0 ≤ 3) (g2 : 0 ≤ x1) (g3 : x1 ≤ 3) (cl : (qN sg bi sc v != qX v sc) = false) (hv0 : -274877906944 < v) (hv : 274877906944 ≤ v) (hk : 31 < k) (w : World) : Calls Try.prog 6 #[.agg #[.int .i64 nu, .int .i64 bi, .int .i64 sc, .bool sg], .agg #[.int .i64 x0, .int .i64 x1], .agg #[.int .i64 v, .int .i64 k]] w fun e w' => e = .returned (.bool true) ∧ Below w.heap.size w w' := by
  obtain ⟨V, eV, hb0, hz, hcs⟩ := wlz_box w nu bi sc sg x0 x1 v k
  have s1 := (lb_ok h).2.2.2.2.1
  have PT := fun u => wput_ok nu bi sc sg x0 v x1 h g0 g1 g2 g3 u
  have TK := fun u => wtake_put nu bi sc sg x0 v x1 h g0 g1 g2 g3 u
  rw [cl] at PT
  have pb := parW_bd (wV nu x0 (tW sg bi sc v % 524288) x1)
  have OD := fun u => wodd (parW (wV nu x0 (tW sg bi sc v % 524288) x1)) pb.1 pb.2 u
  rw [parW_odd] at OD
  have d1 : decide (v < 274877906944) = false := decide_eq_false (by omega)
  generalize parW (wV nu x0 (tW sg bi sc v % 524288) x1) = R at *
  generalize qN sg bi sc v * sc = V1 at *
  clear cl h
  obtain ⟨pb0, pb1⟩ := pb
  replace PT := Lib.hid PT
  replace TK := Lib.hid TK
  replace OD := Lib.hid OD
  have LV := Lib.hid (fun u => lives28 u)
  replace hb0 := Lib.hid hb0
  replace hz := Lib.hid hz
  replace hcs := Lib.hid hcs
  replace eV := Lib.hid eV
  go_enter Try.func6, Try.ntmps6
  go_wp2_with fail
  rw [← eV.out]
  obtain ⟨k0, k1, k2, k3, k4, k5, k6, k7⟩ := hcs.out _ (Below.refl _ _)
  go_wp2_with fail
  refine (PT.out _).mono ?_
  rintro e w1 ⟨rfl, hb1⟩
  have hb1 := (Below.refl (w.heap.size + 3) V).trans (hb1.mono (Nat.le_of_eq hz.out.symm))
  obtain ⟨k0, k1, k2, k3, k4, k5, k6, k7⟩ := hcs.out _ hb1
  go_wp2_with fail
  refine (TK.out _).mono ?_
  rintro e w2 ⟨rfl, hb2⟩
  have hb2 := hb1.trans (hb2.mono (by have := hb1.size; have := hz.out; omega))
  clear hb1
  obtain ⟨k0, k1, k2, k3, k4, k5, k6, k7⟩ := hcs.out _ hb2
  go_wp2_with fail
  refine (OD.out _).mono ?_
  rintro e w3 ⟨rfl, m3, e3w⟩
  have hb3 := Lib.hid (show Below (w.heap.size + 3) V w3 by rw [e3w]; exact below_drewN hb2 m3)
  clear e3w hb2
  obtain ⟨k0, k1, k2, k3, k4, k5, k6, k7⟩ := hcs.out _ hb3.out
  go_wp2_with fail
  refine region_moves (fun u => u.cell? ⟨w.heap.size, 0, none⟩ = some (.int .i64 nu) ∧ u.cell? ⟨w.heap.size, 1, none⟩ = some (.int .i64 bi) ∧ u.cell? ⟨w.heap.size, 2, none⟩ = some (.int .i64 sc) ∧ u.cell? ⟨w.heap.size, 3, none⟩ = some (.bool sg) ∧ u.cell? ⟨w.heap.size + 1, 0, none⟩ = some (.int .i64 x0) ∧ u.cell? ⟨w.heap.size + 1, 1, none⟩ = some (.int .i64 x1) ∧ u.cell? ⟨w.heap.size + 2, 0, none⟩ = some (.int .i64 v) ∧ u.cell? ⟨w.heap.size + 2, 1, none⟩ = some (.int .i64 k)) [] [(.free, 0), (.free, 1), (.free, 2), (.free, 3), (.take, 4), (.free, 5), (.free, 6), (.free, 7), (.free, 8), (.take, 9), (.free, 10), (.free, 11), (.free, 12), (.free, 13), (.free, 14), (.take, 15), (.free, 16), (.free, 19), (.take, 20), (.step, 17), (.free, 18), (.free, 21), (.free, 22)] _ (by kernel_rfl) (by kernel_rfl) (by kernel_rfl) (by kernel_rfl) (by decide) rfl (fun _ _ _ _ _ h => h) ?_
  simp only [List.filterMap_cons, List.filterMap_nil, List.getElem?_toArray, List.getElem?_cons_zero, List.getElem?_cons_succ, Option.map_some]
  iterate 4
    first
      | (refine mv_free ?_ (Or.inl ⟨by rfl, ?_⟩) (⟨k0, k1, k2, k3, k4, k5, k6, k7⟩) ?_
         rotate_left 1
         · intro u
           go_simp
           try simp only [d1]
           try with_reducible rfl
         simp only [Act.put, List.setIfInBounds_toArray, List.set_cons_zero, List.set_cons_succ])
      | (refine mv_free _ (Or.inr ⟨by rfl, rfl⟩) (⟨k0, k1, k2, k3, k4, k5, k6, k7⟩) ?_
         simp only [Act.put, List.setIfInBounds_toArray, List.set_cons_zero, List.set_cons_succ])
  iterate 1
    first
      | (refine mv_take ?_ (Or.inl ⟨by rfl, ?_⟩) (⟨k0, k1, k2, k3, k4, k5, k6, k7⟩) ?_
         rotate_left 1
         · intro u hu
           (try dsimp only at hu)
           go_simp
           try with_reducible rfl
         simp only [Act.put, List.setIfInBounds_toArray, List.set_cons_zero, List.set_cons_succ])
      | (refine mv_take _ (Or.inr ⟨by rfl, rfl⟩) (⟨k0, k1, k2, k3, k4, k5, k6, k7⟩) ?_
         simp only [Act.put, List.setIfInBounds_toArray, List.set_cons_zero, List.set_cons_succ])
  iterate 4
    first
      | (refine mv_free ?_ (Or.inl ⟨by rfl, ?_⟩) (⟨k0, k1, k2, k3, k4, k5, k6, k7⟩) ?_
         rotate_left 1
         · intro u
           go_simp
           try simp only [d1]
           try with_reducible rfl
         simp only [Act.put, List.setIfInBounds_toArray, List.set_cons_zero, List.set_cons_succ])
      | (refine mv_free _ (Or.inr ⟨by rfl, rfl⟩) (⟨k0, k1, k2, k3, k4, k5, k6, k7⟩) ?_
         simp only [Act.put, List.setIfInBounds_toArray, List.set_cons_zero, List.set_cons_succ])
  iterate 1
    first
      | (refine mv_take ?_ (Or.inl ⟨by rfl, ?_⟩) (⟨k0, k1, k2, k3, k4, k5, k6, k7⟩) ?_
         rotate_left 1
         · intro u hu
           (try dsimp only at hu)
           go_simp
           try with_reducible rfl
         simp only [Act.put, List.setIfInBounds_toArray, List.set_cons_zero, List.set_cons_succ])
      | (refine mv_take _ (Or.inr ⟨by rfl, rfl⟩) (⟨k0, k1, k2, k3, k4, k5, k6, k7⟩) ?_
         simp only [Act.put, List.setIfInBounds_toArray, List.set_cons_zero, List.set_cons_succ])
  iterate 5
    first
      | (refine mv_free ?_ (Or.inl ⟨by rfl, ?_⟩) (⟨k0, k1, k2, k3, k4, k5, k6, k7⟩) ?_
         rotate_left 1
         · intro u
           go_simp
           try simp only [d1]
           try with_reducible rfl
         simp only [Act.put, List.setIfInBounds_toArray, List.set_cons_zero, List.set_cons_succ])
      | (refine mv_free _ (Or.inr ⟨by rfl, rfl⟩) (⟨k0, k1, k2, k3, k4, k5, k6, k7⟩) ?_
         simp only [Act.put, List.setIfInBounds_toArray, List.set_cons_zero, List.set_cons_succ])
  iterate 1
    first
      | (refine mv_take ?_ (Or.inl ⟨by rfl, ?_⟩) (⟨k0, k1, k2, k3, k4, k5, k6, k7⟩) ?_
         rotate_left 1
         · intro u hu
           (try dsimp only at hu)
           go_simp
           try with_reducible rfl
         simp only [Act.put, List.setIfInBounds_toArray, List.set_cons_zero, List.set_cons_succ])
      | (refine mv_take _ (Or.inr ⟨by rfl, rfl⟩) (⟨k0, k1, k2, k3, k4, k5, k6, k7⟩) ?_
         simp only [Act.put, List.setIfInBounds_toArray, List.set_cons_zero, List.set_cons_succ])
  iterate 2
    first
      | (refine mv_free ?_ (Or.inl ⟨by rfl, ?_⟩) (⟨k0, k1, k2, k3, k4, k5, k6, k7⟩) ?_
         rotate_left 1
         · intro u
           go_simp
           try simp only [d1]
           try with_reducible rfl
         simp only [Act.put, List.setIfInBounds_toArray, List.set_cons_zero, List.set_cons_succ])
      | (refine mv_free _ (Or.inr ⟨by rfl, rfl⟩) (⟨k0, k1, k2, k3, k4, k5, k6, k7⟩) ?_
         simp only [Act.put, List.setIfInBounds_toArray, List.set_cons_zero, List.set_cons_succ])
  iterate 1
    first
      | (refine mv_take ?_ (Or.inl ⟨by rfl, ?_⟩) (⟨k0, k1, k2, k3, k4, k5, k6, k7⟩) ?_
         rotate_left 1
         · intro u hu
           (try dsimp only at hu)
           go_simp
           try with_reducible rfl
         simp only [Act.put, List.setIfInBounds_toArray, List.set_cons_zero, List.set_cons_succ])
      | (refine mv_take _ (Or.inr ⟨by rfl, rfl⟩) (⟨k0, k1, k2, k3, k4, k5, k6, k7⟩) ?_
         simp only [Act.put, List.setIfInBounds_toArray, List.set_cons_zero, List.set_cons_succ])
  refine mv_step (fun K hK => ?_)
  go_simp
  refine hK.out _ _ _ (fun u hu => hu) (⟨k0, k1, k2, k3, k4, k5, k6, k7⟩) ?_
  clear hK K
  iterate 3
    first
      | (refine mv_free ?_ (Or.inl ⟨by rfl, ?_⟩) (⟨k0, k1, k2, k3, k4, k5, k6, k7⟩) ?_
         rotate_left 1
         · intro u
           go_simp
           try simp only [d1]
           try with_reducible rfl
         simp only [Act.put, List.setIfInBounds_toArray, List.set_cons_zero, List.set_cons_succ])
      | (refine mv_free _ (Or.inr ⟨by rfl, rfl⟩) (⟨k0, k1, k2, k3, k4, k5, k6, k7⟩) ?_
         simp only [Act.put, List.setIfInBounds_toArray, List.set_cons_zero, List.set_cons_succ])
  refine mv_done ?_
  go_wp2_with fail
  refine (LV.out _).mono ?_
  rintro e w4 ⟨rfl, q4⟩
  go_wp2
  go_ret
  exact ⟨rfl, hb0.out.trans (((below_drewN hb3.out _).trans (q4.mono (by have := hb3.out.size; have := hz.out; show _ ≤ w3.heap.size; omega))).mono (by omega))⟩
set_option maxRecDepth 100000 in
set_option maxHeartbeats 8000000 in
theorem wback_ui (nu bi sc : Int) (sg : Bool) (x0 x1 v k : Int) (h : lbR nu bi sc = true) (g0 : 0 ≤ x0) (g1 : x0 ≤ 3) (g2 : 0 ≤ x1) (g3 : x1 ≤ 3) (cl : (qN sg bi sc v != qX v sc) = false) (hv0 : -274877906944 < v) (hv : 274877906944 ≤ v) (hk0 : 0 ≤ k) (hk : k ≤ 31) (w : World) : Calls Try.prog 6 #[.agg #[.int .i64 nu, .int .i64 bi, .int .i64 sc, .bool sg], .agg #[.int .i64 x0, .int .i64 x1], .agg #[.int .i64 v, .int .i64 k]] w fun e w' => e = .returned (.bool true) ∧ Below w.heap.size w w' := by
  obtain ⟨V, eV, hb0, hz, hcs⟩ := wlz_box w nu bi sc sg x0 x1 v k
  have s1 := (lb_ok h).2.2.2.2.1
  have PT := fun u => wput_ok nu bi sc sg x0 v x1 h g0 g1 g2 g3 u
  have TK := fun u => wtake_put nu bi sc sg x0 v x1 h g0 g1 g2 g3 u
  rw [cl] at PT
  have pb := parW_bd (wV nu x0 (tW sg bi sc v % 524288) x1)
  have OD := fun u => wodd (parW (wV nu x0 (tW sg bi sc v % 524288) x1)) pb.1 pb.2 u
  rw [parW_odd] at OD
  obtain ⟨z0, z1, zo⟩ := xor_flip pb.1 pb.2 k.toNat (by omega) (parW_odd (wV nu x0 (tW sg bi sc v % 524288) x1))
  have T2 := fun u => wtake_4 nu bi sc sg (bits .xor .u32 (parW (wV nu x0 (tW sg bi sc v % 524288) x1)) (2 ^ k.toNat)) z0 z1 h zo u
  clear zo
  generalize hZ : bits .xor .u32 (parW (wV nu x0 (tW sg bi sc v % 524288) x1)) (2 ^ k.toNat) = Zx at *
  have kb : 1 ≤ (2 : Int) ^ k.toNat ∧ (2 : Int) ^ k.toNat ≤ 2147483648 := two_bd k.toNat (by omega)
  have km : min k.toNat 32 = k.toNat := by omega
  have ek : (2 : Int) ^ k.toNat % 4294967296 = 2 ^ k.toNat := by omega
  replace T2 := Lib.hid T2
  have d1 : decide (v < 274877906944) = false := decide_eq_false (by omega)
  generalize parW (wV nu x0 (tW sg bi sc v % 524288) x1) = R at *
  generalize qN sg bi sc v * sc = V1 at *
  clear cl h
  obtain ⟨pb0, pb1⟩ := pb
  replace PT := Lib.hid PT
  replace TK := Lib.hid TK
  replace OD := Lib.hid OD
  have LV := Lib.hid (fun u => lives28 u)
  replace hb0 := Lib.hid hb0
  replace hz := Lib.hid hz
  replace hcs := Lib.hid hcs
  replace eV := Lib.hid eV
  go_enter Try.func6, Try.ntmps6
  go_wp2_with fail
  rw [← eV.out]
  obtain ⟨k0, k1, k2, k3, k4, k5, k6, k7⟩ := hcs.out _ (Below.refl _ _)
  go_wp2_with fail
  refine (PT.out _).mono ?_
  rintro e w1 ⟨rfl, hb1⟩
  have hb1 := (Below.refl (w.heap.size + 3) V).trans (hb1.mono (Nat.le_of_eq hz.out.symm))
  obtain ⟨k0, k1, k2, k3, k4, k5, k6, k7⟩ := hcs.out _ hb1
  go_wp2_with fail
  refine (TK.out _).mono ?_
  rintro e w2 ⟨rfl, hb2⟩
  have hb2 := hb1.trans (hb2.mono (by have := hb1.size; have := hz.out; omega))
  clear hb1
  obtain ⟨k0, k1, k2, k3, k4, k5, k6, k7⟩ := hcs.out _ hb2
  go_wp2_with fail
  refine (OD.out _).mono ?_
  rintro e w3 ⟨rfl, m3, e3w⟩
  have hb3 := Lib.hid (show Below (w.heap.size + 3) V w3 by rw [e3w]; exact below_drewN hb2 m3)
  clear e3w hb2
  obtain ⟨k0, k1, k2, k3, k4, k5, k6, k7⟩ := hcs.out _ hb3.out
  go_wp2_with fail
  refine region_moves (fun u => u.cell? ⟨w.heap.size, 0, none⟩ = some (.int .i64 nu) ∧ u.cell? ⟨w.heap.size, 1, none⟩ = some (.int .i64 bi) ∧ u.cell? ⟨w.heap.size, 2, none⟩ = some (.int .i64 sc) ∧ u.cell? ⟨w.heap.size, 3, none⟩ = some (.bool sg) ∧ u.cell? ⟨w.heap.size + 1, 0, none⟩ = some (.int .i64 x0) ∧ u.cell? ⟨w.heap.size + 1, 1, none⟩ = some (.int .i64 x1) ∧ u.cell? ⟨w.heap.size + 2, 0, none⟩ = some (.int .i64 v) ∧ u.cell? ⟨w.heap.size + 2, 1, none⟩ = some (.int .i64 k)) [] [(.free, 0), (.free, 1), (.free, 2), (.free, 3), (.take, 4), (.free, 5), (.free, 6), (.free, 7), (.free, 8), (.take, 9), (.free, 10), (.free, 11), (.free, 12), (.free, 13), (.free, 14), (.take, 15), (.free, 16), (.free, 19), (.take, 20), (.step, 17), (.free, 18), (.free, 21), (.free, 22)] _ (by kernel_rfl) (by kernel_rfl) (by kernel_rfl) (by kernel_rfl) (by decide) rfl (fun _ _ _ _ _ h => h) ?_
  simp only [List.filterMap_cons, List.filterMap_nil, List.getElem?_toArray, List.getElem?_cons_zero, List.getElem?_cons_succ, Option.map_some]
  iterate 4
    first
      | (refine mv_free ?_ (Or.inl ⟨by rfl, ?_⟩) (⟨k0, k1, k2, k3, k4, k5, k6, k7⟩) ?_
         rotate_left 1
         · intro u
           go_simp
           try simp only [d1]
           try with_reducible rfl
         simp only [Act.put, List.setIfInBounds_toArray, List.set_cons_zero, List.set_cons_succ])
      | (refine mv_free _ (Or.inr ⟨by rfl, rfl⟩) (⟨k0, k1, k2, k3, k4, k5, k6, k7⟩) ?_
         simp only [Act.put, List.setIfInBounds_toArray, List.set_cons_zero, List.set_cons_succ])
  iterate 1
    first
      | (refine mv_take ?_ (Or.inl ⟨by rfl, ?_⟩) (⟨k0, k1, k2, k3, k4, k5, k6, k7⟩) ?_
         rotate_left 1
         · intro u hu
           (try dsimp only at hu)
           go_simp
           try with_reducible rfl
         simp only [Act.put, List.setIfInBounds_toArray, List.set_cons_zero, List.set_cons_succ])
      | (refine mv_take _ (Or.inr ⟨by rfl, rfl⟩) (⟨k0, k1, k2, k3, k4, k5, k6, k7⟩) ?_
         simp only [Act.put, List.setIfInBounds_toArray, List.set_cons_zero, List.set_cons_succ])
  iterate 4
    first
      | (refine mv_free ?_ (Or.inl ⟨by rfl, ?_⟩) (⟨k0, k1, k2, k3, k4, k5, k6, k7⟩) ?_
         rotate_left 1
         · intro u
           go_simp
           try simp only [d1]
           try with_reducible rfl
         simp only [Act.put, List.setIfInBounds_toArray, List.set_cons_zero, List.set_cons_succ])
      | (refine mv_free _ (Or.inr ⟨by rfl, rfl⟩) (⟨k0, k1, k2, k3, k4, k5, k6, k7⟩) ?_
         simp only [Act.put, List.setIfInBounds_toArray, List.set_cons_zero, List.set_cons_succ])
  iterate 1
    first
      | (refine mv_take ?_ (Or.inl ⟨by rfl, ?_⟩) (⟨k0, k1, k2, k3, k4, k5, k6, k7⟩) ?_
         rotate_left 1
         · intro u hu
           (try dsimp only at hu)
           go_simp
           try with_reducible rfl
         simp only [Act.put, List.setIfInBounds_toArray, List.set_cons_zero, List.set_cons_succ])
      | (refine mv_take _ (Or.inr ⟨by rfl, rfl⟩) (⟨k0, k1, k2, k3, k4, k5, k6, k7⟩) ?_
         simp only [Act.put, List.setIfInBounds_toArray, List.set_cons_zero, List.set_cons_succ])
  iterate 5
    first
      | (refine mv_free ?_ (Or.inl ⟨by rfl, ?_⟩) (⟨k0, k1, k2, k3, k4, k5, k6, k7⟩) ?_
         rotate_left 1
         · intro u
           go_simp
           try simp only [d1]
           try with_reducible rfl
         simp only [Act.put, List.setIfInBounds_toArray, List.set_cons_zero, List.set_cons_succ])
      | (refine mv_free _ (Or.inr ⟨by rfl, rfl⟩) (⟨k0, k1, k2, k3, k4, k5, k6, k7⟩) ?_
         simp only [Act.put, List.setIfInBounds_toArray, List.set_cons_zero, List.set_cons_succ])
  iterate 1
    first
      | (refine mv_take ?_ (Or.inl ⟨by rfl, ?_⟩) (⟨k0, k1, k2, k3, k4, k5, k6, k7⟩) ?_
         rotate_left 1
         · intro u hu
           (try dsimp only at hu)
           go_simp
           try with_reducible rfl
         simp only [Act.put, List.setIfInBounds_toArray, List.set_cons_zero, List.set_cons_succ])
      | (refine mv_take _ (Or.inr ⟨by rfl, rfl⟩) (⟨k0, k1, k2, k3, k4, k5, k6, k7⟩) ?_
         simp only [Act.put, List.setIfInBounds_toArray, List.set_cons_zero, List.set_cons_succ])
  iterate 2
    first
      | (refine mv_free ?_ (Or.inl ⟨by rfl, ?_⟩) (⟨k0, k1, k2, k3, k4, k5, k6, k7⟩) ?_
         rotate_left 1
         · intro u
           go_simp
           try simp only [d1]
           try with_reducible rfl
         simp only [Act.put, List.setIfInBounds_toArray, List.set_cons_zero, List.set_cons_succ])
      | (refine mv_free _ (Or.inr ⟨by rfl, rfl⟩) (⟨k0, k1, k2, k3, k4, k5, k6, k7⟩) ?_
         simp only [Act.put, List.setIfInBounds_toArray, List.set_cons_zero, List.set_cons_succ])
  iterate 1
    first
      | (refine mv_take ?_ (Or.inl ⟨by rfl, ?_⟩) (⟨k0, k1, k2, k3, k4, k5, k6, k7⟩) ?_
         rotate_left 1
         · intro u hu
           (try dsimp only at hu)
           go_simp
           try with_reducible rfl
         simp only [Act.put, List.setIfInBounds_toArray, List.set_cons_zero, List.set_cons_succ])
      | (refine mv_take _ (Or.inr ⟨by rfl, rfl⟩) (⟨k0, k1, k2, k3, k4, k5, k6, k7⟩) ?_
         simp only [Act.put, List.setIfInBounds_toArray, List.set_cons_zero, List.set_cons_succ])
  refine mv_step (fun K hK => ?_)
  go_simp
  refine hK.out _ _ _ (fun u hu => hu) (⟨k0, k1, k2, k3, k4, k5, k6, k7⟩) ?_
  clear hK K
  iterate 3
    first
      | (refine mv_free ?_ (Or.inl ⟨by rfl, ?_⟩) (⟨k0, k1, k2, k3, k4, k5, k6, k7⟩) ?_
         rotate_left 1
         · intro u
           go_simp
           try simp only [d1]
           try with_reducible rfl
         simp only [Act.put, List.setIfInBounds_toArray, List.set_cons_zero, List.set_cons_succ])
      | (refine mv_free _ (Or.inr ⟨by rfl, rfl⟩) (⟨k0, k1, k2, k3, k4, k5, k6, k7⟩) ?_
         simp only [Act.put, List.setIfInBounds_toArray, List.set_cons_zero, List.set_cons_succ])
  refine mv_done ?_
  go_wp2_with fail
  refine (T2.out _).mono ?_
  rintro e w4 ⟨rfl, q4⟩
  have hb4 := (below_drewN hb3.out _).trans (q4.mono (by have := hb3.out.size; have := hz.out; show _ ≤ w3.heap.size; omega))
  clear q4
  go_wp2_with fail
  refine (LV.out _).mono ?_
  rintro e w5 ⟨rfl, q5⟩
  go_wp2
  go_ret
  exact ⟨rfl, hb0.out.trans ((hb4.trans (q5.mono (by have := hb4.size; have := hz.out; omega))).mono (by omega))⟩
set_option maxRecDepth 100000 in
set_option maxHeartbeats 8000000 in
theorem wback_na (nu bi sc : Int) (sg : Bool) (x0 x1 v k : Int) (h : lbR nu bi sc = true) (g0 : 0 ≤ x0) (g1 : x0 ≤ 3) (g2 : 0 ≤ x1) (g3 : x1 ≤ 3) (cl : (qN sg bi sc v != qX v sc) = false) (hv0 : -274877906944 < v) (hv : v < 274877906944) (hk : k < 0) (w : World) : Calls Try.prog 6 #[.agg #[.int .i64 nu, .int .i64 bi, .int .i64 sc, .bool sg], .agg #[.int .i64 x0, .int .i64 x1], .agg #[.int .i64 v, .int .i64 k]] w fun e w' => e = .returned (.bool true) ∧ Below w.heap.size w w' := by
  obtain ⟨V, eV, hb0, hz, hcs⟩ := wlz_box w nu bi sc sg x0 x1 v k
  have s1 := (lb_ok h).2.2.2.2.1
  have PT := fun u => wput_ok nu bi sc sg x0 v x1 h g0 g1 g2 g3 u
  have TK := fun u => wtake_put nu bi sc sg x0 v x1 h g0 g1 g2 g3 u
  rw [cl] at PT
  have pb := parW_bd (wV nu x0 (tW sg bi sc v % 524288) x1)
  have OD := fun u => wodd (parW (wV nu x0 (tW sg bi sc v % 524288) x1)) pb.1 pb.2 u
  rw [parW_odd] at OD
  have nb := qN_bd (sg := sg) (sc := sc) (v := v) (lb_ok h).2.2.1 (lb_ok h).2.2.2.1
  have lb := loI_bd (sg := sg) (lb_ok h).2.2.1 (lb_ok h).2.2.2.1
  have pp := pwI_bd (b := bi) (by have := lb_ok h; omega) (lb_ok h).2.2.2.1
  have sm := sm_bd (q := qN sg bi sc v) ⟨by omega, by omega⟩ s1 (lb_ok h).2.2.2.2.2
  have nr := near_sc s1 hv0 hv (bne_eq_false_iff_eq.mp cl)
  clear nb lb pp
  generalize qN sg bi sc v * sc = V1 at *
  have AB := fun u => abs01w (V1 - v) u (by omega)
  have ew : IntKind.i64.wrap (V1 - v) = V1 - v := IntWalk.i64_in _ ⟨by omega, by omega⟩
  obtain ⟨Y, hY⟩ : ∃ Y, Y = V1 - v := ⟨_, rfl⟩
  have yb : -4611686018427387904 ≤ Y ∧ Y ≤ 4611686018427387904 := by omega
  rw [← hY] at nr AB
  replace ew : IntKind.i64.wrap (V1 - v) = Y := by rw [hY]; exact ew
  generalize hA : (if Y < 0 then -Y else Y) = A at *
  have ab : 0 ≤ A := by rw [← hA]; split <;> omega
  have ea : IntKind.i64.wrap (2 * A) = 2 * A := IntWalk.i64_in _ ⟨by omega, by have := (lb_ok h).2.2.2.2.2; omega⟩
  have dn : ¬ sc < 2 * A := by omega
  clear hY hA
  clear nr yb
  replace AB := Lib.hid AB
  generalize parW (wV nu x0 (tW sg bi sc v % 524288) x1) = R at *
  clear cl h
  obtain ⟨pb0, pb1⟩ := pb
  replace PT := Lib.hid PT
  replace TK := Lib.hid TK
  replace OD := Lib.hid OD
  have LV := Lib.hid (fun u => lives28 u)
  replace hb0 := Lib.hid hb0
  replace hz := Lib.hid hz
  replace hcs := Lib.hid hcs
  replace eV := Lib.hid eV
  go_enter Try.func6, Try.ntmps6
  go_wp2_with fail
  rw [← eV.out]
  obtain ⟨k0, k1, k2, k3, k4, k5, k6, k7⟩ := hcs.out _ (Below.refl _ _)
  go_wp2_with fail
  refine (PT.out _).mono ?_
  rintro e w1 ⟨rfl, hb1⟩
  have hb1 := (Below.refl (w.heap.size + 3) V).trans (hb1.mono (Nat.le_of_eq hz.out.symm))
  obtain ⟨k0, k1, k2, k3, k4, k5, k6, k7⟩ := hcs.out _ hb1
  go_wp2_with fail
  refine (TK.out _).mono ?_
  rintro e w2 ⟨rfl, hb2⟩
  have hb2 := hb1.trans (hb2.mono (by have := hb1.size; have := hz.out; omega))
  clear hb1
  obtain ⟨k0, k1, k2, k3, k4, k5, k6, k7⟩ := hcs.out _ hb2
  go_wp2_with fail
  refine (OD.out _).mono ?_
  rintro e w3 ⟨rfl, m3, e3w⟩
  have hb3 := Lib.hid (show Below (w.heap.size + 3) V w3 by rw [e3w]; exact below_drewN hb2 m3)
  clear e3w hb2
  obtain ⟨k0, k1, k2, k3, k4, k5, k6, k7⟩ := hcs.out _ hb3.out
  go_wp2_with fail
  refine region_moves (fun u => u.cell? ⟨w.heap.size, 0, none⟩ = some (.int .i64 nu) ∧ u.cell? ⟨w.heap.size, 1, none⟩ = some (.int .i64 bi) ∧ u.cell? ⟨w.heap.size, 2, none⟩ = some (.int .i64 sc) ∧ u.cell? ⟨w.heap.size, 3, none⟩ = some (.bool sg) ∧ u.cell? ⟨w.heap.size + 1, 0, none⟩ = some (.int .i64 x0) ∧ u.cell? ⟨w.heap.size + 1, 1, none⟩ = some (.int .i64 x1) ∧ u.cell? ⟨w.heap.size + 2, 0, none⟩ = some (.int .i64 v) ∧ u.cell? ⟨w.heap.size + 2, 1, none⟩ = some (.int .i64 k)) [] [(.free, 0), (.free, 1), (.free, 2), (.free, 3), (.take, 4), (.free, 5), (.free, 6), (.free, 7), (.free, 8), (.take, 9), (.free, 10), (.free, 11), (.free, 12), (.free, 13), (.free, 14), (.take, 15), (.free, 16), (.free, 19), (.take, 20), (.step, 17), (.free, 18), (.free, 21), (.free, 22)] _ (by kernel_rfl) (by kernel_rfl) (by kernel_rfl) (by kernel_rfl) (by decide) rfl (fun _ _ _ _ _ h => h) ?_
  simp only [List.filterMap_cons, List.filterMap_nil, List.getElem?_toArray, List.getElem?_cons_zero, List.getElem?_cons_succ, Option.map_some]
  iterate 4
    first
      | (refine mv_free ?_ (Or.inl ⟨by rfl, ?_⟩) (⟨k0, k1, k2, k3, k4, k5, k6, k7⟩) ?_
         rotate_left 1
         · intro u
           go_simp
           try simp only [d1]
           try with_reducible rfl
         simp only [Act.put, List.setIfInBounds_toArray, List.set_cons_zero, List.set_cons_succ])
      | (refine mv_free _ (Or.inr ⟨by rfl, rfl⟩) (⟨k0, k1, k2, k3, k4, k5, k6, k7⟩) ?_
         simp only [Act.put, List.setIfInBounds_toArray, List.set_cons_zero, List.set_cons_succ])
  iterate 1
    first
      | (refine mv_take ?_ (Or.inl ⟨by rfl, ?_⟩) (⟨k0, k1, k2, k3, k4, k5, k6, k7⟩) ?_
         rotate_left 1
         · intro u hu
           (try dsimp only at hu)
           go_simp
           try with_reducible rfl
         simp only [Act.put, List.setIfInBounds_toArray, List.set_cons_zero, List.set_cons_succ])
      | (refine mv_take _ (Or.inr ⟨by rfl, rfl⟩) (⟨k0, k1, k2, k3, k4, k5, k6, k7⟩) ?_
         simp only [Act.put, List.setIfInBounds_toArray, List.set_cons_zero, List.set_cons_succ])
  iterate 4
    first
      | (refine mv_free ?_ (Or.inl ⟨by rfl, ?_⟩) (⟨k0, k1, k2, k3, k4, k5, k6, k7⟩) ?_
         rotate_left 1
         · intro u
           go_simp
           try simp only [d1]
           try with_reducible rfl
         simp only [Act.put, List.setIfInBounds_toArray, List.set_cons_zero, List.set_cons_succ])
      | (refine mv_free _ (Or.inr ⟨by rfl, rfl⟩) (⟨k0, k1, k2, k3, k4, k5, k6, k7⟩) ?_
         simp only [Act.put, List.setIfInBounds_toArray, List.set_cons_zero, List.set_cons_succ])
  iterate 1
    first
      | (refine mv_take ?_ (Or.inl ⟨by rfl, ?_⟩) (⟨k0, k1, k2, k3, k4, k5, k6, k7⟩) ?_
         rotate_left 1
         · intro u hu
           (try dsimp only at hu)
           go_simp
           try with_reducible rfl
         simp only [Act.put, List.setIfInBounds_toArray, List.set_cons_zero, List.set_cons_succ])
      | (refine mv_take _ (Or.inr ⟨by rfl, rfl⟩) (⟨k0, k1, k2, k3, k4, k5, k6, k7⟩) ?_
         simp only [Act.put, List.setIfInBounds_toArray, List.set_cons_zero, List.set_cons_succ])
  iterate 5
    first
      | (refine mv_free ?_ (Or.inl ⟨by rfl, ?_⟩) (⟨k0, k1, k2, k3, k4, k5, k6, k7⟩) ?_
         rotate_left 1
         · intro u
           go_simp
           try simp only [d1]
           try with_reducible rfl
         simp only [Act.put, List.setIfInBounds_toArray, List.set_cons_zero, List.set_cons_succ])
      | (refine mv_free _ (Or.inr ⟨by rfl, rfl⟩) (⟨k0, k1, k2, k3, k4, k5, k6, k7⟩) ?_
         simp only [Act.put, List.setIfInBounds_toArray, List.set_cons_zero, List.set_cons_succ])
  iterate 1
    first
      | (refine mv_take ?_ (Or.inl ⟨by rfl, ?_⟩) (⟨k0, k1, k2, k3, k4, k5, k6, k7⟩) ?_
         rotate_left 1
         · intro u hu
           (try dsimp only at hu)
           go_simp
           try with_reducible rfl
         simp only [Act.put, List.setIfInBounds_toArray, List.set_cons_zero, List.set_cons_succ])
      | (refine mv_take _ (Or.inr ⟨by rfl, rfl⟩) (⟨k0, k1, k2, k3, k4, k5, k6, k7⟩) ?_
         simp only [Act.put, List.setIfInBounds_toArray, List.set_cons_zero, List.set_cons_succ])
  iterate 2
    first
      | (refine mv_free ?_ (Or.inl ⟨by rfl, ?_⟩) (⟨k0, k1, k2, k3, k4, k5, k6, k7⟩) ?_
         rotate_left 1
         · intro u
           go_simp
           try simp only [d1]
           try with_reducible rfl
         simp only [Act.put, List.setIfInBounds_toArray, List.set_cons_zero, List.set_cons_succ])
      | (refine mv_free _ (Or.inr ⟨by rfl, rfl⟩) (⟨k0, k1, k2, k3, k4, k5, k6, k7⟩) ?_
         simp only [Act.put, List.setIfInBounds_toArray, List.set_cons_zero, List.set_cons_succ])
  iterate 1
    first
      | (refine mv_take ?_ (Or.inl ⟨by rfl, ?_⟩) (⟨k0, k1, k2, k3, k4, k5, k6, k7⟩) ?_
         rotate_left 1
         · intro u hu
           (try dsimp only at hu)
           go_simp
           try with_reducible rfl
         simp only [Act.put, List.setIfInBounds_toArray, List.set_cons_zero, List.set_cons_succ])
      | (refine mv_take _ (Or.inr ⟨by rfl, rfl⟩) (⟨k0, k1, k2, k3, k4, k5, k6, k7⟩) ?_
         simp only [Act.put, List.setIfInBounds_toArray, List.set_cons_zero, List.set_cons_succ])
  refine mv_step (fun K hK => ?_)
  go_simp
  refine (AB.out _).mono ?_
  rintro e w' ⟨rfl, rfl⟩
  go_wp2_with fail
  refine hK.out _ _ _ (fun u hu => hu) (⟨k0, k1, k2, k3, k4, k5, k6, k7⟩) ?_
  clear hK K
  iterate 3
    first
      | (refine mv_free ?_ (Or.inl ⟨by rfl, ?_⟩) (⟨k0, k1, k2, k3, k4, k5, k6, k7⟩) ?_
         rotate_left 1
         · intro u
           go_simp
           try simp only [d1]
           try with_reducible rfl
         simp only [Act.put, List.setIfInBounds_toArray, List.set_cons_zero, List.set_cons_succ])
      | (refine mv_free _ (Or.inr ⟨by rfl, rfl⟩) (⟨k0, k1, k2, k3, k4, k5, k6, k7⟩) ?_
         simp only [Act.put, List.setIfInBounds_toArray, List.set_cons_zero, List.set_cons_succ])
  refine mv_done ?_
  go_wp2_with fail
  refine (LV.out _).mono ?_
  rintro e w4 ⟨rfl, q4⟩
  go_wp2
  go_ret
  exact ⟨rfl, hb0.out.trans (((below_drewN hb3.out _).trans (q4.mono (by have := hb3.out.size; have := hz.out; show _ ≤ w3.heap.size; omega))).mono (by omega))⟩
set_option maxRecDepth 100000 in
set_option maxHeartbeats 8000000 in
theorem wback_nb (nu bi sc : Int) (sg : Bool) (x0 x1 v k : Int) (h : lbR nu bi sc = true) (g0 : 0 ≤ x0) (g1 : x0 ≤ 3) (g2 : 0 ≤ x1) (g3 : x1 ≤ 3) (cl : (qN sg bi sc v != qX v sc) = false) (hv0 : -274877906944 < v) (hv : v < 274877906944) (hk : 31 < k) (w : World) : Calls Try.prog 6 #[.agg #[.int .i64 nu, .int .i64 bi, .int .i64 sc, .bool sg], .agg #[.int .i64 x0, .int .i64 x1], .agg #[.int .i64 v, .int .i64 k]] w fun e w' => e = .returned (.bool true) ∧ Below w.heap.size w w' := by
  obtain ⟨V, eV, hb0, hz, hcs⟩ := wlz_box w nu bi sc sg x0 x1 v k
  have s1 := (lb_ok h).2.2.2.2.1
  have PT := fun u => wput_ok nu bi sc sg x0 v x1 h g0 g1 g2 g3 u
  have TK := fun u => wtake_put nu bi sc sg x0 v x1 h g0 g1 g2 g3 u
  rw [cl] at PT
  have pb := parW_bd (wV nu x0 (tW sg bi sc v % 524288) x1)
  have OD := fun u => wodd (parW (wV nu x0 (tW sg bi sc v % 524288) x1)) pb.1 pb.2 u
  rw [parW_odd] at OD
  have nb := qN_bd (sg := sg) (sc := sc) (v := v) (lb_ok h).2.2.1 (lb_ok h).2.2.2.1
  have lb := loI_bd (sg := sg) (lb_ok h).2.2.1 (lb_ok h).2.2.2.1
  have pp := pwI_bd (b := bi) (by have := lb_ok h; omega) (lb_ok h).2.2.2.1
  have sm := sm_bd (q := qN sg bi sc v) ⟨by omega, by omega⟩ s1 (lb_ok h).2.2.2.2.2
  have nr := near_sc s1 hv0 hv (bne_eq_false_iff_eq.mp cl)
  clear nb lb pp
  generalize qN sg bi sc v * sc = V1 at *
  have AB := fun u => abs01w (V1 - v) u (by omega)
  have ew : IntKind.i64.wrap (V1 - v) = V1 - v := IntWalk.i64_in _ ⟨by omega, by omega⟩
  obtain ⟨Y, hY⟩ : ∃ Y, Y = V1 - v := ⟨_, rfl⟩
  have yb : -4611686018427387904 ≤ Y ∧ Y ≤ 4611686018427387904 := by omega
  rw [← hY] at nr AB
  replace ew : IntKind.i64.wrap (V1 - v) = Y := by rw [hY]; exact ew
  generalize hA : (if Y < 0 then -Y else Y) = A at *
  have ab : 0 ≤ A := by rw [← hA]; split <;> omega
  have ea : IntKind.i64.wrap (2 * A) = 2 * A := IntWalk.i64_in _ ⟨by omega, by have := (lb_ok h).2.2.2.2.2; omega⟩
  have dn : ¬ sc < 2 * A := by omega
  clear hY hA
  clear nr yb
  replace AB := Lib.hid AB
  generalize parW (wV nu x0 (tW sg bi sc v % 524288) x1) = R at *
  clear cl h
  obtain ⟨pb0, pb1⟩ := pb
  replace PT := Lib.hid PT
  replace TK := Lib.hid TK
  replace OD := Lib.hid OD
  have LV := Lib.hid (fun u => lives28 u)
  replace hb0 := Lib.hid hb0
  replace hz := Lib.hid hz
  replace hcs := Lib.hid hcs
  replace eV := Lib.hid eV
  go_enter Try.func6, Try.ntmps6
  go_wp2_with fail
  rw [← eV.out]
  obtain ⟨k0, k1, k2, k3, k4, k5, k6, k7⟩ := hcs.out _ (Below.refl _ _)
  go_wp2_with fail
  refine (PT.out _).mono ?_
  rintro e w1 ⟨rfl, hb1⟩
  have hb1 := (Below.refl (w.heap.size + 3) V).trans (hb1.mono (Nat.le_of_eq hz.out.symm))
  obtain ⟨k0, k1, k2, k3, k4, k5, k6, k7⟩ := hcs.out _ hb1
  go_wp2_with fail
  refine (TK.out _).mono ?_
  rintro e w2 ⟨rfl, hb2⟩
  have hb2 := hb1.trans (hb2.mono (by have := hb1.size; have := hz.out; omega))
  clear hb1
  obtain ⟨k0, k1, k2, k3, k4, k5, k6, k7⟩ := hcs.out _ hb2
  go_wp2_with fail
  refine (OD.out _).mono ?_
  rintro e w3 ⟨rfl, m3, e3w⟩
  have hb3 := Lib.hid (show Below (w.heap.size + 3) V w3 by rw [e3w]; exact below_drewN hb2 m3)
  clear e3w hb2
  obtain ⟨k0, k1, k2, k3, k4, k5, k6, k7⟩ := hcs.out _ hb3.out
  go_wp2_with fail
  refine region_moves (fun u => u.cell? ⟨w.heap.size, 0, none⟩ = some (.int .i64 nu) ∧ u.cell? ⟨w.heap.size, 1, none⟩ = some (.int .i64 bi) ∧ u.cell? ⟨w.heap.size, 2, none⟩ = some (.int .i64 sc) ∧ u.cell? ⟨w.heap.size, 3, none⟩ = some (.bool sg) ∧ u.cell? ⟨w.heap.size + 1, 0, none⟩ = some (.int .i64 x0) ∧ u.cell? ⟨w.heap.size + 1, 1, none⟩ = some (.int .i64 x1) ∧ u.cell? ⟨w.heap.size + 2, 0, none⟩ = some (.int .i64 v) ∧ u.cell? ⟨w.heap.size + 2, 1, none⟩ = some (.int .i64 k)) [] [(.free, 0), (.free, 1), (.free, 2), (.free, 3), (.take, 4), (.free, 5), (.free, 6), (.free, 7), (.free, 8), (.take, 9), (.free, 10), (.free, 11), (.free, 12), (.free, 13), (.free, 14), (.take, 15), (.free, 16), (.free, 19), (.take, 20), (.step, 17), (.free, 18), (.free, 21), (.free, 22)] _ (by kernel_rfl) (by kernel_rfl) (by kernel_rfl) (by kernel_rfl) (by decide) rfl (fun _ _ _ _ _ h => h) ?_
  simp only [List.filterMap_cons, List.filterMap_nil, List.getElem?_toArray, List.getElem?_cons_zero, List.getElem?_cons_succ, Option.map_some]
  iterate 4
    first
      | (refine mv_free ?_ (Or.inl ⟨by rfl, ?_⟩) (⟨k0, k1, k2, k3, k4, k5, k6, k7⟩) ?_
         rotate_left 1
         · intro u
           go_simp
           try simp only [d1]
           try with_reducible rfl
         simp only [Act.put, List.setIfInBounds_toArray, List.set_cons_zero, List.set_cons_succ])
      | (refine mv_free _ (Or.inr ⟨by rfl, rfl⟩) (⟨k0, k1, k2, k3, k4, k5, k6, k7⟩) ?_
         simp only [Act.put, List.setIfInBounds_toArray, List.set_cons_zero, List.set_cons_succ])
  iterate 1
    first
      | (refine mv_take ?_ (Or.inl ⟨by rfl, ?_⟩) (⟨k0, k1, k2, k3, k4, k5, k6, k7⟩) ?_
         rotate_left 1
         · intro u hu
           (try dsimp only at hu)
           go_simp
           try with_reducible rfl
         simp only [Act.put, List.setIfInBounds_toArray, List.set_cons_zero, List.set_cons_succ])
      | (refine mv_take _ (Or.inr ⟨by rfl, rfl⟩) (⟨k0, k1, k2, k3, k4, k5, k6, k7⟩) ?_
         simp only [Act.put, List.setIfInBounds_toArray, List.set_cons_zero, List.set_cons_succ])
  iterate 4
    first
      | (refine mv_free ?_ (Or.inl ⟨by rfl, ?_⟩) (⟨k0, k1, k2, k3, k4, k5, k6, k7⟩) ?_
         rotate_left 1
         · intro u
           go_simp
           try simp only [d1]
           try with_reducible rfl
         simp only [Act.put, List.setIfInBounds_toArray, List.set_cons_zero, List.set_cons_succ])
      | (refine mv_free _ (Or.inr ⟨by rfl, rfl⟩) (⟨k0, k1, k2, k3, k4, k5, k6, k7⟩) ?_
         simp only [Act.put, List.setIfInBounds_toArray, List.set_cons_zero, List.set_cons_succ])
  iterate 1
    first
      | (refine mv_take ?_ (Or.inl ⟨by rfl, ?_⟩) (⟨k0, k1, k2, k3, k4, k5, k6, k7⟩) ?_
         rotate_left 1
         · intro u hu
           (try dsimp only at hu)
           go_simp
           try with_reducible rfl
         simp only [Act.put, List.setIfInBounds_toArray, List.set_cons_zero, List.set_cons_succ])
      | (refine mv_take _ (Or.inr ⟨by rfl, rfl⟩) (⟨k0, k1, k2, k3, k4, k5, k6, k7⟩) ?_
         simp only [Act.put, List.setIfInBounds_toArray, List.set_cons_zero, List.set_cons_succ])
  iterate 5
    first
      | (refine mv_free ?_ (Or.inl ⟨by rfl, ?_⟩) (⟨k0, k1, k2, k3, k4, k5, k6, k7⟩) ?_
         rotate_left 1
         · intro u
           go_simp
           try simp only [d1]
           try with_reducible rfl
         simp only [Act.put, List.setIfInBounds_toArray, List.set_cons_zero, List.set_cons_succ])
      | (refine mv_free _ (Or.inr ⟨by rfl, rfl⟩) (⟨k0, k1, k2, k3, k4, k5, k6, k7⟩) ?_
         simp only [Act.put, List.setIfInBounds_toArray, List.set_cons_zero, List.set_cons_succ])
  iterate 1
    first
      | (refine mv_take ?_ (Or.inl ⟨by rfl, ?_⟩) (⟨k0, k1, k2, k3, k4, k5, k6, k7⟩) ?_
         rotate_left 1
         · intro u hu
           (try dsimp only at hu)
           go_simp
           try with_reducible rfl
         simp only [Act.put, List.setIfInBounds_toArray, List.set_cons_zero, List.set_cons_succ])
      | (refine mv_take _ (Or.inr ⟨by rfl, rfl⟩) (⟨k0, k1, k2, k3, k4, k5, k6, k7⟩) ?_
         simp only [Act.put, List.setIfInBounds_toArray, List.set_cons_zero, List.set_cons_succ])
  iterate 2
    first
      | (refine mv_free ?_ (Or.inl ⟨by rfl, ?_⟩) (⟨k0, k1, k2, k3, k4, k5, k6, k7⟩) ?_
         rotate_left 1
         · intro u
           go_simp
           try simp only [d1]
           try with_reducible rfl
         simp only [Act.put, List.setIfInBounds_toArray, List.set_cons_zero, List.set_cons_succ])
      | (refine mv_free _ (Or.inr ⟨by rfl, rfl⟩) (⟨k0, k1, k2, k3, k4, k5, k6, k7⟩) ?_
         simp only [Act.put, List.setIfInBounds_toArray, List.set_cons_zero, List.set_cons_succ])
  iterate 1
    first
      | (refine mv_take ?_ (Or.inl ⟨by rfl, ?_⟩) (⟨k0, k1, k2, k3, k4, k5, k6, k7⟩) ?_
         rotate_left 1
         · intro u hu
           (try dsimp only at hu)
           go_simp
           try with_reducible rfl
         simp only [Act.put, List.setIfInBounds_toArray, List.set_cons_zero, List.set_cons_succ])
      | (refine mv_take _ (Or.inr ⟨by rfl, rfl⟩) (⟨k0, k1, k2, k3, k4, k5, k6, k7⟩) ?_
         simp only [Act.put, List.setIfInBounds_toArray, List.set_cons_zero, List.set_cons_succ])
  refine mv_step (fun K hK => ?_)
  go_simp
  refine (AB.out _).mono ?_
  rintro e w' ⟨rfl, rfl⟩
  go_wp2_with fail
  refine hK.out _ _ _ (fun u hu => hu) (⟨k0, k1, k2, k3, k4, k5, k6, k7⟩) ?_
  clear hK K
  iterate 3
    first
      | (refine mv_free ?_ (Or.inl ⟨by rfl, ?_⟩) (⟨k0, k1, k2, k3, k4, k5, k6, k7⟩) ?_
         rotate_left 1
         · intro u
           go_simp
           try simp only [d1]
           try with_reducible rfl
         simp only [Act.put, List.setIfInBounds_toArray, List.set_cons_zero, List.set_cons_succ])
      | (refine mv_free _ (Or.inr ⟨by rfl, rfl⟩) (⟨k0, k1, k2, k3, k4, k5, k6, k7⟩) ?_
         simp only [Act.put, List.setIfInBounds_toArray, List.set_cons_zero, List.set_cons_succ])
  refine mv_done ?_
  go_wp2_with fail
  refine (LV.out _).mono ?_
  rintro e w4 ⟨rfl, q4⟩
  go_wp2
  go_ret
  exact ⟨rfl, hb0.out.trans (((below_drewN hb3.out _).trans (q4.mono (by have := hb3.out.size; have := hz.out; show _ ≤ w3.heap.size; omega))).mono (by omega))⟩
set_option maxRecDepth 100000 in
set_option maxHeartbeats 8000000 in
theorem wback_ni (nu bi sc : Int) (sg : Bool) (x0 x1 v k : Int) (h : lbR nu bi sc = true) (g0 : 0 ≤ x0) (g1 : x0 ≤ 3) (g2 : 0 ≤ x1) (g3 : x1 ≤ 3) (cl : (qN sg bi sc v != qX v sc) = false) (hv0 : -274877906944 < v) (hv : v < 274877906944) (hk0 : 0 ≤ k) (hk : k ≤ 31) (w : World) : Calls Try.prog 6 #[.agg #[.int .i64 nu, .int .i64 bi, .int .i64 sc, .bool sg], .agg #[.int .i64 x0, .int .i64 x1], .agg #[.int .i64 v, .int .i64 k]] w fun e w' => e = .returned (.bool true) ∧ Below w.heap.size w w' := by
  obtain ⟨V, eV, hb0, hz, hcs⟩ := wlz_box w nu bi sc sg x0 x1 v k
  have s1 := (lb_ok h).2.2.2.2.1
  have PT := fun u => wput_ok nu bi sc sg x0 v x1 h g0 g1 g2 g3 u
  have TK := fun u => wtake_put nu bi sc sg x0 v x1 h g0 g1 g2 g3 u
  rw [cl] at PT
  have pb := parW_bd (wV nu x0 (tW sg bi sc v % 524288) x1)
  have OD := fun u => wodd (parW (wV nu x0 (tW sg bi sc v % 524288) x1)) pb.1 pb.2 u
  rw [parW_odd] at OD
  have nb := qN_bd (sg := sg) (sc := sc) (v := v) (lb_ok h).2.2.1 (lb_ok h).2.2.2.1
  have lb := loI_bd (sg := sg) (lb_ok h).2.2.1 (lb_ok h).2.2.2.1
  have pp := pwI_bd (b := bi) (by have := lb_ok h; omega) (lb_ok h).2.2.2.1
  have sm := sm_bd (q := qN sg bi sc v) ⟨by omega, by omega⟩ s1 (lb_ok h).2.2.2.2.2
  have nr := near_sc s1 hv0 hv (bne_eq_false_iff_eq.mp cl)
  clear nb lb pp
  generalize qN sg bi sc v * sc = V1 at *
  have AB := fun u => abs01w (V1 - v) u (by omega)
  have ew : IntKind.i64.wrap (V1 - v) = V1 - v := IntWalk.i64_in _ ⟨by omega, by omega⟩
  obtain ⟨Y, hY⟩ : ∃ Y, Y = V1 - v := ⟨_, rfl⟩
  have yb : -4611686018427387904 ≤ Y ∧ Y ≤ 4611686018427387904 := by omega
  rw [← hY] at nr AB
  replace ew : IntKind.i64.wrap (V1 - v) = Y := by rw [hY]; exact ew
  generalize hA : (if Y < 0 then -Y else Y) = A at *
  have ab : 0 ≤ A := by rw [← hA]; split <;> omega
  have ea : IntKind.i64.wrap (2 * A) = 2 * A := IntWalk.i64_in _ ⟨by omega, by have := (lb_ok h).2.2.2.2.2; omega⟩
  have dn : ¬ sc < 2 * A := by omega
  clear hY hA
  clear nr yb
  replace AB := Lib.hid AB
  obtain ⟨z0, z1, zo⟩ := xor_flip pb.1 pb.2 k.toNat (by omega) (parW_odd (wV nu x0 (tW sg bi sc v % 524288) x1))
  have T2 := fun u => wtake_4 nu bi sc sg (bits .xor .u32 (parW (wV nu x0 (tW sg bi sc v % 524288) x1)) (2 ^ k.toNat)) z0 z1 h zo u
  clear zo
  generalize hZ : bits .xor .u32 (parW (wV nu x0 (tW sg bi sc v % 524288) x1)) (2 ^ k.toNat) = Zx at *
  have kb : 1 ≤ (2 : Int) ^ k.toNat ∧ (2 : Int) ^ k.toNat ≤ 2147483648 := two_bd k.toNat (by omega)
  have km : min k.toNat 32 = k.toNat := by omega
  have ek : (2 : Int) ^ k.toNat % 4294967296 = 2 ^ k.toNat := by omega
  replace T2 := Lib.hid T2
  generalize parW (wV nu x0 (tW sg bi sc v % 524288) x1) = R at *
  clear cl h
  obtain ⟨pb0, pb1⟩ := pb
  replace PT := Lib.hid PT
  replace TK := Lib.hid TK
  replace OD := Lib.hid OD
  have LV := Lib.hid (fun u => lives28 u)
  replace hb0 := Lib.hid hb0
  replace hz := Lib.hid hz
  replace hcs := Lib.hid hcs
  replace eV := Lib.hid eV
  go_enter Try.func6, Try.ntmps6
  go_wp2_with fail
  rw [← eV.out]
  obtain ⟨k0, k1, k2, k3, k4, k5, k6, k7⟩ := hcs.out _ (Below.refl _ _)
  go_wp2_with fail
  refine (PT.out _).mono ?_
  rintro e w1 ⟨rfl, hb1⟩
  have hb1 := (Below.refl (w.heap.size + 3) V).trans (hb1.mono (Nat.le_of_eq hz.out.symm))
  obtain ⟨k0, k1, k2, k3, k4, k5, k6, k7⟩ := hcs.out _ hb1
  go_wp2_with fail
  refine (TK.out _).mono ?_
  rintro e w2 ⟨rfl, hb2⟩
  have hb2 := hb1.trans (hb2.mono (by have := hb1.size; have := hz.out; omega))
  clear hb1
  obtain ⟨k0, k1, k2, k3, k4, k5, k6, k7⟩ := hcs.out _ hb2
  go_wp2_with fail
  refine (OD.out _).mono ?_
  rintro e w3 ⟨rfl, m3, e3w⟩
  have hb3 := Lib.hid (show Below (w.heap.size + 3) V w3 by rw [e3w]; exact below_drewN hb2 m3)
  clear e3w hb2
  obtain ⟨k0, k1, k2, k3, k4, k5, k6, k7⟩ := hcs.out _ hb3.out
  go_wp2_with fail
  refine region_moves (fun u => u.cell? ⟨w.heap.size, 0, none⟩ = some (.int .i64 nu) ∧ u.cell? ⟨w.heap.size, 1, none⟩ = some (.int .i64 bi) ∧ u.cell? ⟨w.heap.size, 2, none⟩ = some (.int .i64 sc) ∧ u.cell? ⟨w.heap.size, 3, none⟩ = some (.bool sg) ∧ u.cell? ⟨w.heap.size + 1, 0, none⟩ = some (.int .i64 x0) ∧ u.cell? ⟨w.heap.size + 1, 1, none⟩ = some (.int .i64 x1) ∧ u.cell? ⟨w.heap.size + 2, 0, none⟩ = some (.int .i64 v) ∧ u.cell? ⟨w.heap.size + 2, 1, none⟩ = some (.int .i64 k)) [] [(.free, 0), (.free, 1), (.free, 2), (.free, 3), (.take, 4), (.free, 5), (.free, 6), (.free, 7), (.free, 8), (.take, 9), (.free, 10), (.free, 11), (.free, 12), (.free, 13), (.free, 14), (.take, 15), (.free, 16), (.free, 19), (.take, 20), (.step, 17), (.free, 18), (.free, 21), (.free, 22)] _ (by kernel_rfl) (by kernel_rfl) (by kernel_rfl) (by kernel_rfl) (by decide) rfl (fun _ _ _ _ _ h => h) ?_
  simp only [List.filterMap_cons, List.filterMap_nil, List.getElem?_toArray, List.getElem?_cons_zero, List.getElem?_cons_succ, Option.map_some]
  iterate 4
    first
      | (refine mv_free ?_ (Or.inl ⟨by rfl, ?_⟩) (⟨k0, k1, k2, k3, k4, k5, k6, k7⟩) ?_
         rotate_left 1
         · intro u
           go_simp
           try simp only [d1]
           try with_reducible rfl
         simp only [Act.put, List.setIfInBounds_toArray, List.set_cons_zero, List.set_cons_succ])
      | (refine mv_free _ (Or.inr ⟨by rfl, rfl⟩) (⟨k0, k1, k2, k3, k4, k5, k6, k7⟩) ?_
         simp only [Act.put, List.setIfInBounds_toArray, List.set_cons_zero, List.set_cons_succ])
  iterate 1
    first
      | (refine mv_take ?_ (Or.inl ⟨by rfl, ?_⟩) (⟨k0, k1, k2, k3, k4, k5, k6, k7⟩) ?_
         rotate_left 1
         · intro u hu
           (try dsimp only at hu)
           go_simp
           try with_reducible rfl
         simp only [Act.put, List.setIfInBounds_toArray, List.set_cons_zero, List.set_cons_succ])
      | (refine mv_take _ (Or.inr ⟨by rfl, rfl⟩) (⟨k0, k1, k2, k3, k4, k5, k6, k7⟩) ?_
         simp only [Act.put, List.setIfInBounds_toArray, List.set_cons_zero, List.set_cons_succ])
  iterate 4
    first
      | (refine mv_free ?_ (Or.inl ⟨by rfl, ?_⟩) (⟨k0, k1, k2, k3, k4, k5, k6, k7⟩) ?_
         rotate_left 1
         · intro u
           go_simp
           try simp only [d1]
           try with_reducible rfl
         simp only [Act.put, List.setIfInBounds_toArray, List.set_cons_zero, List.set_cons_succ])
      | (refine mv_free _ (Or.inr ⟨by rfl, rfl⟩) (⟨k0, k1, k2, k3, k4, k5, k6, k7⟩) ?_
         simp only [Act.put, List.setIfInBounds_toArray, List.set_cons_zero, List.set_cons_succ])
  iterate 1
    first
      | (refine mv_take ?_ (Or.inl ⟨by rfl, ?_⟩) (⟨k0, k1, k2, k3, k4, k5, k6, k7⟩) ?_
         rotate_left 1
         · intro u hu
           (try dsimp only at hu)
           go_simp
           try with_reducible rfl
         simp only [Act.put, List.setIfInBounds_toArray, List.set_cons_zero, List.set_cons_succ])
      | (refine mv_take _ (Or.inr ⟨by rfl, rfl⟩) (⟨k0, k1, k2, k3, k4, k5, k6, k7⟩) ?_
         simp only [Act.put, List.setIfInBounds_toArray, List.set_cons_zero, List.set_cons_succ])
  iterate 5
    first
      | (refine mv_free ?_ (Or.inl ⟨by rfl, ?_⟩) (⟨k0, k1, k2, k3, k4, k5, k6, k7⟩) ?_
         rotate_left 1
         · intro u
           go_simp
           try simp only [d1]
           try with_reducible rfl
         simp only [Act.put, List.setIfInBounds_toArray, List.set_cons_zero, List.set_cons_succ])
      | (refine mv_free _ (Or.inr ⟨by rfl, rfl⟩) (⟨k0, k1, k2, k3, k4, k5, k6, k7⟩) ?_
         simp only [Act.put, List.setIfInBounds_toArray, List.set_cons_zero, List.set_cons_succ])
  iterate 1
    first
      | (refine mv_take ?_ (Or.inl ⟨by rfl, ?_⟩) (⟨k0, k1, k2, k3, k4, k5, k6, k7⟩) ?_
         rotate_left 1
         · intro u hu
           (try dsimp only at hu)
           go_simp
           try with_reducible rfl
         simp only [Act.put, List.setIfInBounds_toArray, List.set_cons_zero, List.set_cons_succ])
      | (refine mv_take _ (Or.inr ⟨by rfl, rfl⟩) (⟨k0, k1, k2, k3, k4, k5, k6, k7⟩) ?_
         simp only [Act.put, List.setIfInBounds_toArray, List.set_cons_zero, List.set_cons_succ])
  iterate 2
    first
      | (refine mv_free ?_ (Or.inl ⟨by rfl, ?_⟩) (⟨k0, k1, k2, k3, k4, k5, k6, k7⟩) ?_
         rotate_left 1
         · intro u
           go_simp
           try simp only [d1]
           try with_reducible rfl
         simp only [Act.put, List.setIfInBounds_toArray, List.set_cons_zero, List.set_cons_succ])
      | (refine mv_free _ (Or.inr ⟨by rfl, rfl⟩) (⟨k0, k1, k2, k3, k4, k5, k6, k7⟩) ?_
         simp only [Act.put, List.setIfInBounds_toArray, List.set_cons_zero, List.set_cons_succ])
  iterate 1
    first
      | (refine mv_take ?_ (Or.inl ⟨by rfl, ?_⟩) (⟨k0, k1, k2, k3, k4, k5, k6, k7⟩) ?_
         rotate_left 1
         · intro u hu
           (try dsimp only at hu)
           go_simp
           try with_reducible rfl
         simp only [Act.put, List.setIfInBounds_toArray, List.set_cons_zero, List.set_cons_succ])
      | (refine mv_take _ (Or.inr ⟨by rfl, rfl⟩) (⟨k0, k1, k2, k3, k4, k5, k6, k7⟩) ?_
         simp only [Act.put, List.setIfInBounds_toArray, List.set_cons_zero, List.set_cons_succ])
  refine mv_step (fun K hK => ?_)
  go_simp
  refine (AB.out _).mono ?_
  rintro e w' ⟨rfl, rfl⟩
  go_wp2_with fail
  refine hK.out _ _ _ (fun u hu => hu) (⟨k0, k1, k2, k3, k4, k5, k6, k7⟩) ?_
  clear hK K
  iterate 3
    first
      | (refine mv_free ?_ (Or.inl ⟨by rfl, ?_⟩) (⟨k0, k1, k2, k3, k4, k5, k6, k7⟩) ?_
         rotate_left 1
         · intro u
           go_simp
           try simp only [d1]
           try with_reducible rfl
         simp only [Act.put, List.setIfInBounds_toArray, List.set_cons_zero, List.set_cons_succ])
      | (refine mv_free _ (Or.inr ⟨by rfl, rfl⟩) (⟨k0, k1, k2, k3, k4, k5, k6, k7⟩) ?_
         simp only [Act.put, List.setIfInBounds_toArray, List.set_cons_zero, List.set_cons_succ])
  refine mv_done ?_
  go_wp2_with fail
  refine (T2.out _).mono ?_
  rintro e w4 ⟨rfl, q4⟩
  have hb4 := (below_drewN hb3.out _).trans (q4.mono (by have := hb3.out.size; have := hz.out; show _ ≤ w3.heap.size; omega))
  clear q4
  go_wp2_with fail
  refine (LV.out _).mono ?_
  rintro e w5 ⟨rfl, q5⟩
  go_wp2
  go_ret
  exact ⟨rfl, hb0.out.trans ((hb4.trans (q5.mono (by have := hb4.size; have := hz.out; omega))).mono (by omega))⟩
theorem wback_ok (nu bi sc : Int) (sg : Bool) (x0 x1 v k : Int) (h : lbR nu bi sc = true) (g0 : 0 ≤ x0) (g1 : x0 ≤ 3) (g2 : 0 ≤ x1) (g3 : x1 ≤ 3) (w : World) : Calls Try.prog 6 #[.agg #[.int .i64 nu, .int .i64 bi, .int .i64 sc, .bool sg], .agg #[.int .i64 x0, .int .i64 x1], .agg #[.int .i64 v, .int .i64 k]] w fun e w' => e = .returned (.bool true) ∧ Below w.heap.size w w' := by
  cases cl : (qN sg bi sc v != qX v sc)
  · by_cases v0 : v ≤ -274877906944
    · skip
      by_cases k0 : k < 0
      · exact wback_la nu bi sc sg x0 x1 v k h g0 g1 g2 g3 cl v0 k0 w
      · by_cases k1 : 31 < k
        · exact wback_lb nu bi sc sg x0 x1 v k h g0 g1 g2 g3 cl v0 k1 w
        · exact wback_li nu bi sc sg x0 x1 v k h g0 g1 g2 g3 cl v0 (by omega) (by omega) w
    · by_cases v1 : 274877906944 ≤ v
      · skip
        by_cases k0 : k < 0
        · exact wback_ua nu bi sc sg x0 x1 v k h g0 g1 g2 g3 cl (by omega) v1 k0 w
        · by_cases k1 : 31 < k
          · exact wback_ub nu bi sc sg x0 x1 v k h g0 g1 g2 g3 cl (by omega) v1 k1 w
          · exact wback_ui nu bi sc sg x0 x1 v k h g0 g1 g2 g3 cl (by omega) v1 (by omega) (by omega) w
      · skip
        by_cases k0 : k < 0
        · exact wback_na nu bi sc sg x0 x1 v k h g0 g1 g2 g3 cl (by omega) (by omega) k0 w
        · by_cases k1 : 31 < k
          · exact wback_nb nu bi sc sg x0 x1 v k h g0 g1 g2 g3 cl (by omega) (by omega) k1 w
          · exact wback_ni nu bi sc sg x0 x1 v k h g0 g1 g2 g3 cl (by omega) (by omega) (by omega) (by omega) w
  · skip
    by_cases k0 : k < 0
    · exact wback_ca nu bi sc sg x0 x1 v k h g0 g1 g2 g3 cl  k0 w
    · by_cases k1 : 31 < k
      · exact wback_cb nu bi sc sg x0 x1 v k h g0 g1 g2 g3 cl  k1 w
      · exact wback_ci nu bi sc sg x0 x1 v k h g0 g1 g2 g3 cl  (by omega) (by omega) w
theorem law_WordBack (nu bi sc : Int) (sg : Bool) (x0 x1 v k : Int) (w : World) : Calls Try.prog 6 #[.agg #[.int .i64 nu, .int .i64 bi, .int .i64 sc, .bool sg], .agg #[.int .i64 x0, .int .i64 x1], .agg #[.int .i64 v, .int .i64 k]] w fun e w' => e = .returned (.bool true) ∧ Below w.heap.size w w' := by
  cases h : lbR nu bi sc
  · exact wback_no nu bi sc sg x0 x1 v k h w
  · by_cases g0 : 0 ≤ x0
    · by_cases g1 : x0 ≤ 3
      · by_cases g2 : 0 ≤ x1
        · by_cases g3 : x1 ≤ 3
          · exact wback_ok nu bi sc sg x0 x1 v k h g0 g1 g2 g3 w
          · exact wback_r3 nu bi sc sg x0 x1 v k h g0 g1 g2 (by omega) w
        · exact wback_r2 nu bi sc sg x0 x1 v k h g0 g1 (by omega) w
      · exact wback_r1 nu bi sc sg x0 x1 v k h g0 (by omega) w
    · exact wback_r0 nu bi sc sg x0 x1 v k h (by omega) w
end Go.Proofs.Ytlhejkaedgelnaa
