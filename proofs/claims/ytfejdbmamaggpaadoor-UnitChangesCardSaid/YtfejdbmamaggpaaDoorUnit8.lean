/- The law UnitChanges; walked. -/
import Derived.Test.YtfejdbmamaggpaaDoorUnit7
namespace Go.Proofs.YtfejdbmamaggpaaDoor
open Go.ChangeShapes Go.WideShapes Go.ChangeAt Go.RowKit
set_option linter.unusedVariables false
set_option linter.unusedSimpArgs false
set_option maxRecDepth 100000 in
set_option maxHeartbeats 8000000 in
theorem law_UnitChanges (n u v : Int) (w : World) (ht : Pw10 w) : Calls Tryd.prog 4 #[.agg #[.int .i64 n, .int .i64 u], .int .i64 v] w fun e w' => e = .returned (.bool true) ∧ Below w.heap.size w w' := by
  have LV := Lib.hid (fun x (k : Below w.heap.size w x) => lives37 x (ht.bel k))
  have P1 := fun x => uparts n u x
  have P2 := fun x => rparts n u x
  have T1 := fun x => uto n u v x
  have T2 := fun x => rto n u v x
  obtain ⟨V, eV, hbV, HC⟩ := qt_box w n u
  have HW := Lib.hid (fun x (k : Below V.heap.size V x) => (hbV.trans (k.mono hbV.size) : Below w.heap.size w x))
  obtain ⟨B, eB⟩ : ∃ B, w.heap.size = B := ⟨_, rfl⟩
  rw [eB] at HC hbV
  replace HC := Lib.hid HC
  replace eV := Lib.hid eV
  obtain ⟨pv, epv⟩ : ∃ z, ptV n u = z := ⟨_, rfl⟩
  obtain ⟨pb, epb⟩ : ∃ z, ptB n u = z := ⟨_, rfl⟩
  rw [epv, epb] at P1 P2
  unfold toQ at T1
  obtain ⟨tv, etv⟩ : ∃ z, toV n u v = z := ⟨_, rfl⟩
  obtain ⟨tb, etb⟩ : ∃ z, toB n u v = z := ⟨_, rfl⟩
  rw [etv, etb] at T1 T2
  replace P1 := Lib.hid P1
  replace P2 := Lib.hid P2
  replace T2 := Lib.hid T2
  have r1 : (pv != pv) = false := by simp
  have r2 : (pb != pb) = false := by simp
  have r3 : (tb != tb) = false := by simp
  have h0 := Lib.hid (Below.refl V.heap.size V)
  clear ht hbV epv epb etv etb
  cases tb
  · simp only [Bool.false_eq_true, if_false] at T1
    replace T1 := Lib.hid T1
    go_enter Tryd.func4, Tryd.ntmps4
    obtain ⟨c0, c1⟩ := HC.out V h0.out
    go_upto_region 1 with (fail)
    try rw [eB]
    rw [← eV.out]
    go_wp2_with fail
    refine (P1.out V).mono ?_
    rintro e u1 ⟨rfl, hb⟩
    have k1 := Lib.hid (show Below V.heap.size V u1 from hb)
    clear hb c0 c1
    obtain ⟨c0, c1⟩ := HC.out u1 k1.out
    go_wp2_with fail
    refine (P2.out u1).mono ?_
    rintro e u2 ⟨rfl, hb⟩
    have k2 := Lib.hid (show Below V.heap.size V u2 from k1.out.trans (hb.mono k1.out.size))
    clear hb c0 c1
    obtain ⟨c0, c1⟩ := HC.out u2 k2.out
    go_wp2_with fail
    refine (T1.out u2).mono ?_
    rintro e u3 ⟨rfl, hb⟩
    have k3 := Lib.hid (show Below V.heap.size V u3 from k2.out.trans (hb.mono k2.out.size))
    clear hb c0 c1
    obtain ⟨X, eX, hbX, HX⟩ := qt_box u3 (0) (0)
    have kX := Lib.hid (show Below V.heap.size V X from k3.out.trans (hbX.mono k3.out.size))
    obtain ⟨C, eC⟩ : ∃ C, u3.heap.size = C := ⟨_, rfl⟩
    rw [eC] at HX
    clear hbX
    replace eX := Lib.hid eX
    obtain ⟨c0, c1⟩ := HC.out X kX.out
    go_upto_region 4 with (fail)
    try rw [eC]
    rw [← eX.out]
    go_wp2_with fail
    refine (T2.out X).mono ?_
    rintro e u4 ⟨rfl, hb⟩
    obtain ⟨x0, x1⟩ := HX u4 hb
    have k4 := Lib.hid (show Below V.heap.size V u4 from kX.out.trans (hb.mono kX.out.size))
    clear hb c0 c1 HX
    go_wp2_with fail
    refine (LV.out u4 (HW.out u4 k4.out)).mono ?_
    rintro e u5 ⟨rfl, hb⟩
    have k5 := Lib.hid (show Below w.heap.size w u5 from HW.out u5 (k4.out.trans (hb.mono k4.out.size)))
    clear hb
    go_wp2
    go_ret
    exact ⟨rfl, k5.out⟩
  · simp only [if_true] at T1
    replace T1 := Lib.hid T1
    have r4 : (tv == tv) = true := by simp
    have r5 : (v == v) = true := by simp
    go_enter Tryd.func4, Tryd.ntmps4
    obtain ⟨c0, c1⟩ := HC.out V h0.out
    go_upto_region 1 with (fail)
    try rw [eB]
    rw [← eV.out]
    go_wp2_with fail
    refine (P1.out V).mono ?_
    rintro e u1 ⟨rfl, hb⟩
    have k1 := Lib.hid (show Below V.heap.size V u1 from hb)
    clear hb c0 c1
    obtain ⟨c0, c1⟩ := HC.out u1 k1.out
    go_wp2_with fail
    refine (P2.out u1).mono ?_
    rintro e u2 ⟨rfl, hb⟩
    have k2 := Lib.hid (show Below V.heap.size V u2 from k1.out.trans (hb.mono k1.out.size))
    clear hb c0 c1
    obtain ⟨c0, c1⟩ := HC.out u2 k2.out
    go_wp2_with fail
    refine (T1.out u2).mono ?_
    rintro e u3 ⟨rfl, hb⟩
    have k3 := Lib.hid (show Below V.heap.size V u3 from k2.out.trans (hb.mono k2.out.size))
    clear hb c0 c1
    obtain ⟨X, eX, hbX, HX⟩ := qt_box u3 (tv) (v)
    have kX := Lib.hid (show Below V.heap.size V X from k3.out.trans (hbX.mono k3.out.size))
    obtain ⟨C, eC⟩ : ∃ C, u3.heap.size = C := ⟨_, rfl⟩
    rw [eC] at HX
    clear hbX
    replace eX := Lib.hid eX
    obtain ⟨c0, c1⟩ := HC.out X kX.out
    go_upto_region 4 with (fail)
    try rw [eC]
    rw [← eX.out]
    go_wp2_with fail
    refine (T2.out X).mono ?_
    rintro e u4 ⟨rfl, hb⟩
    obtain ⟨x0, x1⟩ := HX u4 hb
    have k4 := Lib.hid (show Below V.heap.size V u4 from kX.out.trans (hb.mono kX.out.size))
    clear hb c0 c1 HX
    go_wp2_with fail
    refine (LV.out u4 (HW.out u4 k4.out)).mono ?_
    rintro e u5 ⟨rfl, hb⟩
    have k5 := Lib.hid (show Below w.heap.size w u5 from HW.out u5 (k4.out.trans (hb.mono k4.out.size)))
    clear hb
    go_wp2
    go_ret
    exact ⟨rfl, k5.out⟩
end Go.Proofs.YtfejdbmamaggpaaDoor
