/- Package sensor: the chapter's example; the law SensorNew; walked. -/
import Derived.Test.YtbbmkmkalghaeaaSensor3
import Derived.Deep.Cut
namespace Go.Proofs.Ytbbmkmkalghaeaa
open Go.ChangeShapes Go.WideShapes Go.ChangeAt Go.RowKit
set_option linter.unusedVariables false
set_option linter.unusedSimpArgs false

theorem rdb_box (w : World) (V E : Int) : ∃ u, u = w.alloc (.cells #[.int .i64 V, .int .i64 E] 36) ∧ Below w.heap.size w u ∧ Held w.heap.size [.int .i64 V, .int .i64 E] u ∧ u.heap.size = w.heap.size + 1 :=
  ⟨_, rfl, (by repeat (first | exact Below.refl _ _ | assumption | apply Below.drew | apply below_drewN | (refine Below.alloc ?_ (by first | exact Nat.le_refl _ | omega | (simp <;> omega)) _) | (refine Below.setCell ?_ (by first | exact Nat.le_refl _ | omega | (simp <;> omega)) _))), Held.new w [.int .i64 V, .int .i64 E] _, by simp⟩
set_option maxRecDepth 100000 in
set_option maxHeartbeats 4000000 in
theorem lives17 (w : World) : Calls Try.prog 22 #[] w fun e w' => e = .returned (.bool true) ∧ Below w.heap.size w w' := by
  have NW := Lib.hid (fun u => snew_ok 1 5 65536 0 0 0 0 100 9 0 u (by decide))
  have RP := Lib.hid (fun u => rput_ok 1 0 7 0 u (by decide))
  go_enter Try.func22, Try.ntmps22
  go_wp2_with fail
  refine (NW.out _).mono ?_
  rintro e w1 ⟨b, l, g, y, hb, hl, hg, hy, rfl, S1, hb1⟩
  have ST1 := Lib.hid (sstep_no (ee := 10) (x0 := 0) (a := none) (n := 0) (cap := 0) (E := 10) w1 S1 (by decide) (fun u Su hu => saccept_err u Su (lkstep_none l u Su.hl (by decide) none 0) (by decide) (by decide) (by decide)) (by decide))
  have bl := S1.o.lt
  replace S1 := Lib.hid S1
  go_wp2_with fail
  refine ST1.out.mono ?_
  rintro e w2 ⟨rfl, S2, B2⟩
  have hb2 := Lib.hid (hb1.trans (B2.below hl hg hy hb1.size))
  clear B2 ST1 hb1
  go_upto_region 5 with (fail)
  obtain ⟨w3, e3, hm3, hA3, hz3⟩ := rdb_box w2 0 10
  rw [← e3]
  replace e3 := Lib.hid e3
  obtain ⟨qa, eqa⟩ : ∃ qa, qa = w2.heap.size := ⟨_, rfl⟩
  rw [← eqa] at hA3 ⊢
  have na1 : qa ≠ l := by have := S2.hl.lt; omega
  have na2 : qa ≠ g := by have := S2.hg.lt; omega
  have na3 : qa ≠ y := by have := S2.hy.lt; omega
  have hb3 := Lib.hid (hb2.out.trans (hm3.mono hb2.out.size))
  have S3 := Lib.hid (S2.bel hm3)
  replace hA3 := Lib.hid hA3
  clear S2 hm3 hz3 hb2 eqa
  go_wp2_with fail
  refine (RP.out _).mono ?_
  rintro e w4 ⟨g5, c5, rfl, ho5, hq4⟩
  obtain ⟨hr5, hg5, -⟩ := own_bytes ho5 (by decide) rfl
  have S4 := S3.out.bel hq4
  have hA4 := Lib.hid (hA3.out.bel hq4)
  have hb4 := Lib.hid (hb3.out.trans (hq4.mono hb3.out.size))
  have hne : g5 ≠ l := by have := S3.out.hl.lt; omega
  have ST4 := Lib.hid (sstep_yes (ee := 0) (x0 := 7) (a := some ⟨g5, 0, none⟩) (n := 8) (cap := c5) (Z := 7) w4 S4 rfl (fun u Su hu => saccept_ok (V := 7) (E := 0) (A := 7) (B := true) (N := 0) u Su (lkp_new l g5 c5 u Su.hl (by decide) (by decide) (by decide) (hr5.below hu) hne) (by decide) (gaR_ok (by decide)) (by decide) (by decide) (by decide) (by decide) (by decide) (by decide) (by decide) (by decide) (by decide)) (by decide) (by decide) (by decide) (by decide) (by decide))
  clear ho5 hq4 hr5 hg5 S4 S3 hb3 hA3
  go_wp2_with fail
  refine ST4.out.mono ?_
  rintro e w5 ⟨rfl, S5, B5⟩
  have hb5 := Lib.hid (hb4.out.trans (B5.below hl hg hy hb4.out.size))
  have hA5 := hA4.out.bes B5 na1 na2 na3
  clear B5 ST4 hb4 hA4 S5
  go_upto_region 6 with (fail)
  obtain ⟨w6, e6, hm6, hB6, hz6⟩ := rdb_box w5 7 0
  rw [← e6]
  replace e6 := Lib.hid e6
  have hA6 := hA5.bel hm6
  have hb6 := Lib.hid (hb5.out.trans (hm6.mono hb5.out.size))
  clear hA5 hm6 hz6 hb5
  obtain ⟨p0, f0⟩ := hA6.one 0 rfl
  obtain ⟨p1, f1⟩ := hA6.one 1 rfl
  obtain ⟨q0, x0⟩ := hB6.one 0 rfl
  obtain ⟨q1, x1⟩ := hB6.one 1 rfl
  go_wp2
  go_ret
  exact ⟨rfl, hb6.out⟩
theorem pl_box (w : World) (id pa sh ga of sl dr lo hi ra : Int) : ∃ V, V = w.alloc (.cells #[.int .i64 id, .int .i64 pa, .int .i64 sh, .int .i64 ga, .int .i64 of, .int .i64 sl, .int .i64 dr, .int .i64 lo, .int .i64 hi, .int .i64 ra] 27) ∧ Below w.heap.size w V ∧ Held w.heap.size [.int .i64 id, .int .i64 pa, .int .i64 sh, .int .i64 ga, .int .i64 of, .int .i64 sl, .int .i64 dr, .int .i64 lo, .int .i64 hi, .int .i64 ra] V ∧ V.heap.size = w.heap.size + 1 :=
  ⟨_, rfl, (by repeat (first | exact Below.refl _ _ | assumption | apply Below.drew | apply below_drewN | (refine Below.alloc ?_ (by first | exact Nat.le_refl _ | omega | (simp <;> omega)) _) | (refine Below.setCell ?_ (by first | exact Nat.le_refl _ | omega | (simp <;> omega)) _))), Held.new w [.int .i64 id, .int .i64 pa, .int .i64 sh, .int .i64 ga, .int .i64 of, .int .i64 sl, .int .i64 dr, .int .i64 lo, .int .i64 hi, .int .i64 ra] _, by simp⟩
set_option maxRecDepth 100000 in
set_option maxHeartbeats 4000000 in
theorem law_SensorNew (id pa sh ga of sl dr lo hi ra : Int) (a : Value) (w : World) : Calls Try.prog 3 #[.agg #[.int .i64 id, .int .i64 pa, .int .i64 sh, .int .i64 ga, .int .i64 of, .int .i64 sl, .int .i64 dr, .int .i64 lo, .int .i64 hi, .int .i64 ra], a] w fun e w' => e = .returned (.bool true) ∧ Below w.heap.size w w' := by
  have LV := Lib.hid (fun u => lives17 u)
  have RW := fun u => rswrong id pa ga of sl dr lo hi ra sh u
  obtain ⟨V, eV, hb0, hP, hz⟩ := pl_box w id pa sh ga of sl dr lo hi ra
  replace eV := Lib.hid eV
  replace hz := Lib.hid hz
  by_cases h0 : snW id pa ga of sl dr lo hi ra sh = 0
  · have NW := Lib.hid (fun u => snew_ok id pa ga of sl dr lo hi ra sh u h0)
    rw [h0] at RW
    replace RW := Lib.hid RW
    clear h0
    obtain ⟨c0, z0⟩ := hP.one 0 rfl
    obtain ⟨c1, z1⟩ := hP.one 1 rfl
    obtain ⟨c2, z2⟩ := hP.one 2 rfl
    obtain ⟨c3, z3⟩ := hP.one 3 rfl
    obtain ⟨c4, z4⟩ := hP.one 4 rfl
    obtain ⟨c5, z5⟩ := hP.one 5 rfl
    obtain ⟨c6, z6⟩ := hP.one 6 rfl
    obtain ⟨c7, z7⟩ := hP.one 7 rfl
    obtain ⟨c8, z8⟩ := hP.one 8 rfl
    obtain ⟨c9, z9⟩ := hP.one 9 rfl
    go_enter Try.func3, Try.ntmps3
    go_upto_region 1 with (fail)
    rw [← eV.out]
    go_wp2_with fail
    refine (NW.out _).mono ?_
    rintro e w1 ⟨b, l, g, y, hb, hl, hg, hy, rfl, S1, hb1⟩
    have hP1 := hP.bel hb1
    have hbb1 := Lib.hid (hb0.trans (hb1.mono hb0.size))
    clear c0 c1 c2 c3 c4 c5 c6 c7 c8 c9 z0 z1 z2 z3 z4 z5 z6 z7 z8 z9 S1 hb1 hP hb hl hg hy
    go_wp2_with fail
    refine (sreset_nil _).mono ?_
    rintro e w' ⟨rfl, rfl⟩
    go_wp2_with fail
    refine (slast_nil _).mono ?_
    rintro e w' ⟨rfl, rfl⟩
    go_wp2_with fail
    refine (sstep_nil _ _).mono ?_
    rintro e w2 ⟨rfl, hb2⟩
    have hP2 := hP1.bel hb2
    have hbb2 := Lib.hid (hbb1.out.trans (hb2.mono hbb1.out.size))
    clear hP1 hbb1 hb2
    go_wp2_with fail
    refine (sstale_nil _).mono ?_
    rintro e w' ⟨rfl, rfl⟩
    obtain ⟨c0, z0⟩ := hP2.one 0 rfl
    obtain ⟨c1, z1⟩ := hP2.one 1 rfl
    obtain ⟨c2, z2⟩ := hP2.one 2 rfl
    obtain ⟨c3, z3⟩ := hP2.one 3 rfl
    obtain ⟨c4, z4⟩ := hP2.one 4 rfl
    obtain ⟨c5, z5⟩ := hP2.one 5 rfl
    obtain ⟨c6, z6⟩ := hP2.one 6 rfl
    obtain ⟨c7, z7⟩ := hP2.one 7 rfl
    obtain ⟨c8, z8⟩ := hP2.one 8 rfl
    obtain ⟨c9, z9⟩ := hP2.one 9 rfl
    go_wp2_with fail
    refine (RW.out _).mono ?_
    rintro e w3 ⟨rfl, hb3⟩
    have hbb3 := Lib.hid (hbb2.out.trans (hb3.mono hbb2.out.size))
    clear hbb2 hb3 hP2 c0 c1 c2 c3 c4 c5 c6 c7 c8 c9 z0 z1 z2 z3 z4 z5 z6 z7 z8 z9
    go_wp2_with fail
    refine (LV.out _).mono ?_
    rintro e w4 ⟨rfl, hb4⟩
    go_wp2
    go_ret
    exact ⟨rfl, hbb3.out.trans (hb4.mono hbb3.out.size)⟩
  · have NW := fun u => snew_no id pa ga of sl dr lo hi ra sh u h0
    generalize snW id pa ga of sl dr lo hi ra sh = C at *
    have d5 : (C != 0) = true := by simp [h0]
    replace NW := Lib.hid NW
    replace RW := Lib.hid RW
    clear h0
    obtain ⟨c0, z0⟩ := hP.one 0 rfl
    obtain ⟨c1, z1⟩ := hP.one 1 rfl
    obtain ⟨c2, z2⟩ := hP.one 2 rfl
    obtain ⟨c3, z3⟩ := hP.one 3 rfl
    obtain ⟨c4, z4⟩ := hP.one 4 rfl
    obtain ⟨c5, z5⟩ := hP.one 5 rfl
    obtain ⟨c6, z6⟩ := hP.one 6 rfl
    obtain ⟨c7, z7⟩ := hP.one 7 rfl
    obtain ⟨c8, z8⟩ := hP.one 8 rfl
    obtain ⟨c9, z9⟩ := hP.one 9 rfl
    go_enter Try.func3, Try.ntmps3
    go_upto_region 1 with (fail)
    rw [← eV.out]
    go_wp2_with fail
    refine (NW.out _).mono ?_
    rintro e w1 ⟨rfl, hb1⟩
    have hP1 := hP.bel hb1
    have hbb1 := Lib.hid (hb0.trans (hb1.mono hb0.size))
    clear c0 c1 c2 c3 c4 c5 c6 c7 c8 c9 z0 z1 z2 z3 z4 z5 z6 z7 z8 z9 hb1 hP
    go_wp2_with fail
    refine (sreset_nil _).mono ?_
    rintro e w' ⟨rfl, rfl⟩
    go_wp2_with fail
    refine (slast_nil _).mono ?_
    rintro e w' ⟨rfl, rfl⟩
    go_wp2_with fail
    refine (sstep_nil _ _).mono ?_
    rintro e w2 ⟨rfl, hb2⟩
    have hP2 := hP1.bel hb2
    have hbb2 := Lib.hid (hbb1.out.trans (hb2.mono hbb1.out.size))
    clear hP1 hbb1 hb2
    go_wp2_with fail
    refine (sstale_nil _).mono ?_
    rintro e w' ⟨rfl, rfl⟩
    obtain ⟨c0, z0⟩ := hP2.one 0 rfl
    obtain ⟨c1, z1⟩ := hP2.one 1 rfl
    obtain ⟨c2, z2⟩ := hP2.one 2 rfl
    obtain ⟨c3, z3⟩ := hP2.one 3 rfl
    obtain ⟨c4, z4⟩ := hP2.one 4 rfl
    obtain ⟨c5, z5⟩ := hP2.one 5 rfl
    obtain ⟨c6, z6⟩ := hP2.one 6 rfl
    obtain ⟨c7, z7⟩ := hP2.one 7 rfl
    obtain ⟨c8, z8⟩ := hP2.one 8 rfl
    obtain ⟨c9, z9⟩ := hP2.one 9 rfl
    go_wp2_with fail
    refine (RW.out _).mono ?_
    rintro e w3 ⟨rfl, hb3⟩
    have hbb3 := Lib.hid (hbb2.out.trans (hb3.mono hbb2.out.size))
    clear hbb2 hb3 hP2 c0 c1 c2 c3 c4 c5 c6 c7 c8 c9 z0 z1 z2 z3 z4 z5 z6 z7 z8 z9
    go_wp2_with fail
    refine (LV.out _).mono ?_
    rintro e w4 ⟨rfl, hb4⟩
    go_wp2
    go_ret
    exact ⟨rfl, hbb3.out.trans (hb4.mono hbb3.out.size)⟩
end Go.Proofs.Ytbbmkmkalghaeaa
