/- The laws SsecCorrects and SsecMeasures; walked. -/
import Derived.Test.YtnfbfggkbpobiaaSsec9
import Derived.Deep.Cut
namespace Go.Proofs.Ytnfbfggkbpobiaa
open Go.ChangeShapes Go.WideShapes Go.ChangeAt Go.RowKit
set_option linter.unusedVariables false
set_option linter.unusedSimpArgs false
theorem ss11_box (w : World) (a1 a2 a3 : Option Addr) (e1 e2 e3 : Nat) (X Y : List Int) (Z : List (List Int)) (r q p al : Int) : ∃ V, V = ((w.alloc (.cells #[.slice a1 X.length e1, .slice a2 Y.length e2, .slice a3 Z.length e3, .int .i64 r] 48)).alloc (.cells #[.int .i64 q, .int .i64 p, .int .i64 al] 55)) ∧ Below w.heap.size w V ∧ V.heap.size = w.heap.size + 2 ∧ ∀ u, Below (w.heap.size + 2) V u → u.cell? ⟨w.heap.size, 0, none⟩ = some (.slice a1 X.length e1) ∧ u.cell? ⟨w.heap.size, 1, none⟩ = some (.slice a2 Y.length e2) ∧ u.cell? ⟨w.heap.size, 2, none⟩ = some (.slice a3 Z.length e3) ∧ u.cell? ⟨w.heap.size, 3, none⟩ = some (.int .i64 r) ∧ u.cell? ⟨w.heap.size + 1, 0, none⟩ = some (.int .i64 q) ∧ u.cell? ⟨w.heap.size + 1, 1, none⟩ = some (.int .i64 p) ∧ u.cell? ⟨w.heap.size + 1, 2, none⟩ = some (.int .i64 al) :=
  ⟨_, rfl, (by repeat (first | exact Below.refl _ _ | assumption | apply Below.drew | apply below_drewN | (refine Below.alloc ?_ (by first | exact Nat.le_refl _ | omega | (simp <;> omega)) _) | (refine Below.setCell ?_ (by first | exact Nat.le_refl _ | omega | (simp <;> omega)) _))), by simp, fun u hu => ⟨(bc hu (by omega)).trans (by go_simp), (bc hu (by omega)).trans (by go_simp), (bc hu (by omega)).trans (by go_simp), (bc hu (by omega)).trans (by go_simp), (bc hu (by omega)).trans (by go_simp), (bc hu (by omega)).trans (by go_simp), (bc hu (by omega)).trans (by go_simp)⟩⟩
set_option maxRecDepth 100000 in
set_option maxHeartbeats 8000000 in
theorem law_SsecCorrects (a1 a2 a3 : Option Addr) (GA : Nat → Option Addr) (GC : Nat → Nat) (e1 e2 e3 : Nat) (X Y : List Int) (Z : List (List Int)) (r q p al : Int) (w : World) (hx : RowIs .i64 w a1 X) (hy : RowIs .i64 w a2 Y) (hg : GridIs .i64 w a3 GA GC Z) : Calls Try.prog 8 #[.agg #[.slice a1 X.length e1, .slice a2 Y.length e2, .slice a3 Z.length e3, .int .i64 r], .agg #[.int .i64 q, .int .i64 p, .int .i64 al]] w fun e w' => e = .returned (.bool true) ∧ Below w.heap.size w w' := by
  obtain ⟨V, eV, hb0, hz, hcs⟩ := ss11_box w a1 a2 a3 e1 e2 e3 X Y Z r q p al
  have LV := Lib.hid (fun u => lives38 u)
  have GR := Lib.hid (fun u (h : Below (w.heap.size + 2) V u) => sgreat38 a1 a2 a3 GA GC e1 e2 e3 X Y Z u (hg.below (hb0.trans (h.mono (by omega)))))
  have RD := Lib.hid (fun hX hY hZ hR u (h : Below (w.heap.size + 2) V u) => rsc38 a1 a2 a3 GA GC e1 e2 e3 X Y Z r u (hx.below (hb0.trans (h.mono (by omega)))) (hy.below (hb0.trans (h.mono (by omega)))) (hg.below (hb0.trans (h.mono (by omega)))) hX hY hZ hR)
  have SS := Lib.hid (fun hX hY hZ hR u (h : Below (w.heap.size + 2) V u) => sscstat a1 a2 a3 GA GC e1 e2 e3 X Y Z r q p al u (hx.below (hb0.trans (h.mono (by omega)))) (hy.below (hb0.trans (h.mono (by omega)))) (hg.below (hb0.trans (h.mono (by omega)))) hX hY hZ hR)
  have II := Lib.hid (fun hX hY hZ hR u (h : Below (w.heap.size + 2) V u) => sscimp a1 a2 a3 GA GC e1 e2 e3 X Y Z r q p al u (hx.below (hb0.trans (h.mono (by omega)))) (hy.below (hb0.trans (h.mono (by omega)))) (hg.below (hb0.trans (h.mono (by omega)))) hX hY hZ hR)
  have RI := Lib.hid (fun hX hY hZ hR hs u (h : Below (w.heap.size + 2) V u) => rimp38 a1 a2 a3 GA GC e1 e2 e3 X Y Z r q p al u (hx.below (hb0.trans (h.mono (by omega)))) (hy.below (hb0.trans (h.mono (by omega)))) (hg.below (hb0.trans (h.mono (by omega)))) hX hY hZ hR hs)
  clear hx hy hg
  replace hb0 := Lib.hid hb0
  replace hz := Lib.hid hz
  replace hcs := Lib.hid hcs
  replace eV := Lib.hid eV
  go_enter Try.func8, Try.ntmps8
  go_wp2_with fail
  rw [← eV.out]
  obtain ⟨k0, k1, k2, k3, k4, k5, k6⟩ := hcs.out _ (Below.refl _ _)
  go_wp2_with fail
  refine (GR.out _ (Below.refl _ _)).mono ?_
  rintro e w1 ⟨g, rfl, hgb, hb1⟩
  have hb1 := (Below.refl (w.heap.size + 2) V).trans (hb1.mono (Nat.le_of_eq hz.out.symm))
  obtain ⟨k0, k1, k2, k3, k4, k5, k6⟩ := hcs.out _ hb1
  cases g
  case true =>
    clear hgb RD SS II RI
    go_wp2_with fail
    refine (LV.out _).mono ?_
    rintro e w20 ⟨rfl, hb20⟩
    have hb20 := hb1.trans (hb20.mono (by have := hb1.size; have := hz.out; omega))
    go_wp2
    go_ret
    exact ⟨rfl, hb0.out.trans (hb20.mono (by omega))⟩
  case false =>
  obtain ⟨hX, hY, hZ, hR⟩ := hgb rfl
  have RD1 := RD.out hX hY hZ hR
  have SS1 := SS.out hX hY hZ hR
  have II1 := II.out hX hY hZ hR
  cases hs : scB r X Y Z
  · rw [hs] at RD1 SS1 II1
    simp only [Bool.false_eq_true, if_false] at SS1 II1
    replace RD1 := Lib.hid RD1
    replace SS1 := Lib.hid SS1
    replace II1 := Lib.hid II1
    clear hgb RD SS II RI hX hY hZ hR hs
    go_wp2_with fail
    refine (SS1.out _ hb1).mono ?_
    rintro e w2 ⟨rfl, hb2⟩
    have hb2 := hb1.trans (hb2.mono (by have := hb1.size; have := hz.out; omega))
    clear hb1
    obtain ⟨k0, k1, k2, k3, k4, k5, k6⟩ := hcs.out _ hb2
    go_wp2_with fail
    refine (II1.out _ hb2).mono ?_
    rintro e w3 ⟨rfl, hb3⟩
    have hb3 := hb2.trans (hb3.mono (by have := hb2.size; have := hz.out; omega))
    clear hb2
    obtain ⟨k0, k1, k2, k3, k4, k5, k6⟩ := hcs.out _ hb3
    go_wp2_with fail
    refine (RD1.out _ hb3).mono ?_
    rintro e w4 ⟨rfl, hb4⟩
    have hb4 := hb3.trans (hb4.mono (by have := hb3.size; have := hz.out; omega))
    clear hb3
    obtain ⟨k0, k1, k2, k3, k4, k5, k6⟩ := hcs.out _ hb4
    go_wp2_with fail
    refine (LV.out _).mono ?_
    rintro e w20 ⟨rfl, hb20⟩
    have hb20 := hb4.trans (hb20.mono (by have := hb4.size; have := hz.out; omega))
    go_wp2
    go_ret
    exact ⟨rfl, hb0.out.trans (hb20.mono (by omega))⟩
  have RI1 := RI.out hX hY hZ hR hs
  rw [hs] at RD1 SS1 II1
  simp only [if_true] at SS1 II1
  generalize stF X Y Z (clQ q) (clP p) al r.toNat = t at *
  generalize max (clQ q + clP p - t) 0 = i at *
  have d1 : (t == t) = true := by simp
  have d2 : (i == i) = true := by simp
  replace RD1 := Lib.hid RD1
  replace SS1 := Lib.hid SS1
  replace II1 := Lib.hid II1
  replace RI1 := Lib.hid RI1
  clear hgb RD SS II RI hX hY hZ hR hs
  go_wp2_with fail
  refine (SS1.out _ hb1).mono ?_
  rintro e w2 ⟨rfl, hb2⟩
  have hb2 := hb1.trans (hb2.mono (by have := hb1.size; have := hz.out; omega))
  clear hb1
  obtain ⟨k0, k1, k2, k3, k4, k5, k6⟩ := hcs.out _ hb2
  go_wp2_with fail
  refine (II1.out _ hb2).mono ?_
  rintro e w3 ⟨rfl, hb3⟩
  have hb3 := hb2.trans (hb3.mono (by have := hb2.size; have := hz.out; omega))
  clear hb2
  obtain ⟨k0, k1, k2, k3, k4, k5, k6⟩ := hcs.out _ hb3
  go_wp2_with fail
  refine (RD1.out _ hb3).mono ?_
  rintro e w4 ⟨rfl, hb4⟩
  have hb4 := hb3.trans (hb4.mono (by have := hb3.size; have := hz.out; omega))
  clear hb3
  obtain ⟨k0, k1, k2, k3, k4, k5, k6⟩ := hcs.out _ hb4
  go_wp2_with fail
  refine (RI1.out _ hb4).mono ?_
  rintro e w5 ⟨rfl, hb5⟩
  have hb5 := hb4.trans (hb5.mono (by have := hb4.size; have := hz.out; omega))
  clear hb4
  obtain ⟨k0, k1, k2, k3, k4, k5, k6⟩ := hcs.out _ hb5
  go_wp2_with fail
  refine (LV.out _).mono ?_
  rintro e w20 ⟨rfl, hb20⟩
  have hb20 := hb5.trans (hb20.mono (by have := hb5.size; have := hz.out; omega))
  go_wp2
  go_ret
  exact ⟨rfl, hb0.out.trans (hb20.mono (by omega))⟩
set_option maxRecDepth 100000 in
set_option maxHeartbeats 8000000 in
theorem law_SsecMeasures (a1 a2 a3 : Option Addr) (GA : Nat → Option Addr) (GC : Nat → Nat) (e1 e2 e3 : Nat) (X Y : List Int) (Z : List (List Int)) (r q p al : Int) (w : World) (hx : RowIs .i64 w a1 X) (hy : RowIs .i64 w a2 Y) (hg : GridIs .i64 w a3 GA GC Z) : Calls Try.prog 9 #[.agg #[.slice a1 X.length e1, .slice a2 Y.length e2, .slice a3 Z.length e3, .int .i64 r], .agg #[.int .i64 q, .int .i64 p, .int .i64 al]] w fun e w' => e = .returned (.bool true) ∧ Below w.heap.size w w' := by
  obtain ⟨V, eV, hb0, hz, hcs⟩ := ss11_box w a1 a2 a3 e1 e2 e3 X Y Z r q p al
  have LV := Lib.hid (fun u => lives38 u)
  have GR := Lib.hid (fun u (h : Below (w.heap.size + 2) V u) => sgreat38 a1 a2 a3 GA GC e1 e2 e3 X Y Z u (hg.below (hb0.trans (h.mono (by omega)))))
  have RD := Lib.hid (fun hX hY hZ hR u (h : Below (w.heap.size + 2) V u) => rsc38 a1 a2 a3 GA GC e1 e2 e3 X Y Z r u (hx.below (hb0.trans (h.mono (by omega)))) (hy.below (hb0.trans (h.mono (by omega)))) (hg.below (hb0.trans (h.mono (by omega)))) hX hY hZ hR)
  have SS := Lib.hid (fun hX hY hZ hR u (h : Below (w.heap.size + 2) V u) => sscmea a1 a2 a3 GA GC e1 e2 e3 X Y Z r q p al u (hx.below (hb0.trans (h.mono (by omega)))) (hy.below (hb0.trans (h.mono (by omega)))) (hg.below (hb0.trans (h.mono (by omega)))) hX hY hZ hR)
  have RI := Lib.hid (fun hX hY hZ hR hs u (h : Below (w.heap.size + 2) V u) => rmea38 a1 a2 a3 GA GC e1 e2 e3 X Y Z r q p al u (hx.below (hb0.trans (h.mono (by omega)))) (hy.below (hb0.trans (h.mono (by omega)))) (hg.below (hb0.trans (h.mono (by omega)))) hX hY hZ hR hs)
  clear hx hy hg
  replace hb0 := Lib.hid hb0
  replace hz := Lib.hid hz
  replace hcs := Lib.hid hcs
  replace eV := Lib.hid eV
  go_enter Try.func9, Try.ntmps9
  go_wp2_with fail
  rw [← eV.out]
  obtain ⟨k0, k1, k2, k3, k4, k5, k6⟩ := hcs.out _ (Below.refl _ _)
  go_wp2_with fail
  refine (GR.out _ (Below.refl _ _)).mono ?_
  rintro e w1 ⟨g, rfl, hgb, hb1⟩
  have hb1 := (Below.refl (w.heap.size + 2) V).trans (hb1.mono (Nat.le_of_eq hz.out.symm))
  obtain ⟨k0, k1, k2, k3, k4, k5, k6⟩ := hcs.out _ hb1
  cases g
  case true =>
    clear hgb RD SS RI
    go_wp2_with fail
    refine (LV.out _).mono ?_
    rintro e w20 ⟨rfl, hb20⟩
    have hb20 := hb1.trans (hb20.mono (by have := hb1.size; have := hz.out; omega))
    go_wp2
    go_ret
    exact ⟨rfl, hb0.out.trans (hb20.mono (by omega))⟩
  case false =>
  obtain ⟨hX, hY, hZ, hR⟩ := hgb rfl
  have RD1 := RD.out hX hY hZ hR
  have SS1 := SS.out hX hY hZ hR
  cases hs : scB r X Y Z
  · rw [hs] at RD1 SS1
    simp only [Bool.false_eq_true, if_false] at SS1
    replace RD1 := Lib.hid RD1
    replace SS1 := Lib.hid SS1
    clear hgb RD SS RI hX hY hZ hR hs
    go_wp2_with fail
    refine (SS1.out _ hb1).mono ?_
    rintro e w2 ⟨rfl, hb2⟩
    have hb2 := hb1.trans (hb2.mono (by have := hb1.size; have := hz.out; omega))
    clear hb1
    obtain ⟨k0, k1, k2, k3, k4, k5, k6⟩ := hcs.out _ hb2
    go_wp2_with fail
    refine (RD1.out _ hb2).mono ?_
    rintro e w3 ⟨rfl, hb3⟩
    have hb3 := hb2.trans (hb3.mono (by have := hb2.size; have := hz.out; omega))
    clear hb2
    obtain ⟨k0, k1, k2, k3, k4, k5, k6⟩ := hcs.out _ hb3
    go_wp2_with fail
    refine (LV.out _).mono ?_
    rintro e w20 ⟨rfl, hb20⟩
    have hb20 := hb3.trans (hb20.mono (by have := hb3.size; have := hz.out; omega))
    go_wp2
    go_ret
    exact ⟨rfl, hb0.out.trans (hb20.mono (by omega))⟩
  have RI1 := RI.out hX hY hZ hR hs
  rw [hs] at RD1 SS1
  simp only [if_true] at SS1
  generalize max (clP p + erF X Y Z (clQ q) (clP p) al (clP p)) 1 = t at *
  generalize max (clQ q + clP p - t) 0 = i at *
  have d1 : (t == t) = true := by simp
  have d2 : (i == i) = true := by simp
  replace RD1 := Lib.hid RD1
  replace SS1 := Lib.hid SS1
  replace RI1 := Lib.hid RI1
  clear hgb RD SS RI hX hY hZ hR hs
  go_wp2_with fail
  refine (SS1.out _ hb1).mono ?_
  rintro e w2 ⟨rfl, hb2⟩
  have hb2 := hb1.trans (hb2.mono (by have := hb1.size; have := hz.out; omega))
  clear hb1
  obtain ⟨k0, k1, k2, k3, k4, k5, k6⟩ := hcs.out _ hb2
  go_wp2_with fail
  refine (RD1.out _ hb2).mono ?_
  rintro e w3 ⟨rfl, hb3⟩
  have hb3 := hb2.trans (hb3.mono (by have := hb2.size; have := hz.out; omega))
  clear hb2
  obtain ⟨k0, k1, k2, k3, k4, k5, k6⟩ := hcs.out _ hb3
  go_wp2_with fail
  refine (RI1.out _ hb3).mono ?_
  rintro e w4 ⟨rfl, hb4⟩
  have hb4 := hb3.trans (hb4.mono (by have := hb3.size; have := hz.out; omega))
  clear hb3
  obtain ⟨k0, k1, k2, k3, k4, k5, k6⟩ := hcs.out _ hb4
  go_wp2_with fail
  refine (LV.out _).mono ?_
  rintro e w20 ⟨rfl, hb20⟩
  have hb20 := hb4.trans (hb20.mono (by have := hb4.size; have := hz.out; omega))
  go_wp2
  go_ret
  exact ⟨rfl, hb0.out.trans (hb20.mono (by omega))⟩
end Go.Proofs.Ytnfbfggkbpobiaa
