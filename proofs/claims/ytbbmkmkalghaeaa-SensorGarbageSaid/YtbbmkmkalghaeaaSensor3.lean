/- Package sensor: New; the document's; the chapter's example; the law SensorNew; walked. -/
import Derived.Test.YtbbmkmkalghaeaaSensor2
import Derived.Deep.Cut
namespace Go.Proofs.Ytbbmkmkalghaeaa
open Go.ChangeShapes Go.WideShapes Go.ChangeAt Go.RowKit
set_option linter.unusedVariables false
set_option linter.unusedSimpArgs false
/-- What is wrong first. -/
def snW (id pa ga of sl dr lo hi ra sh : Int) : Int :=
  if id < 0 ∨ 255 < id ∨ pa < 0 ∨ 1000 < pa then 2 else if clR ga of sl dr = false then 1 else if gaR lo hi ra = false then 2 else if sh < 0 ∨ 16 < sh then 2 else 0
def SnP (b0 : Nat) (id pa ga of sl dr lo hi ra sh : Int) (w : World) (e : Ending) (w' : World) : Prop := ∃ b l g y : Nat, b0 ≤ b ∧ b0 ≤ l ∧ b0 ≤ g ∧ b0 ≤ y ∧ e = .returned (.tuple #[.pointer (some ⟨b, 0, none⟩), .int .i64 0]) ∧ Sn b l g y ga of sl dr (lkC id pa 0 0 0 0 false 0 0 0) (gaC lo hi ra 0 false 0) (lgC sh 0 false) w' ∧ Below b0 w w'
theorem sn_two (w : World) (ga of sl dr lo hi ra : Int) : ∃ V, V = ((w.alloc (.cells #[.int .i64 ga, .int .i64 of, .int .i64 sl, .int .i64 dr] 23)).alloc (.cells #[.int .i64 lo, .int .i64 hi, .int .i64 ra] 25)) ∧ Below w.heap.size w V ∧ Held w.heap.size [.int .i64 ga, .int .i64 of, .int .i64 sl, .int .i64 dr] V ∧ Held (w.heap.size + 1) [.int .i64 lo, .int .i64 hi, .int .i64 ra] V ∧ V.heap.size = w.heap.size + 2 := by
  refine ⟨_, rfl, (by repeat (first | exact Below.refl _ _ | assumption | apply Below.drew | apply below_drewN | (refine Below.alloc ?_ (by first | exact Nat.le_refl _ | omega | (simp <;> omega)) _) | (refine Below.setCell ?_ (by first | exact Nat.le_refl _ | omega | (simp <;> omega)) _))), (Held.new w [.int .i64 ga, .int .i64 of, .int .i64 sl, .int .i64 dr] 23).alloc _, ?_, by simp⟩
  have := Held.new (w.alloc (.cells #[.int .i64 ga, .int .i64 of, .int .i64 sl, .int .i64 dr] 23)) [.int .i64 lo, .int .i64 hi, .int .i64 ra] 25
  simpa using this
set_option maxRecDepth 100000 in
set_option maxHeartbeats 8000000 in
theorem snew_no (id pa ga of sl dr lo hi ra sh : Int) (w : World) (h : snW id pa ga of sl dr lo hi ra sh ≠ 0) : Calls Try.prog 16 #[.int .i64 id, .int .i64 pa, .agg #[.int .i64 ga, .int .i64 of, .int .i64 sl, .int .i64 dr], .agg #[.int .i64 lo, .int .i64 hi, .int .i64 ra], .int .i64 sh] w fun e w' => e = .returned (.tuple #[.pointer none, .int .i64 (snW id pa ga of sl dr lo hi ra sh)]) ∧ Below w.heap.size w w' := by
  obtain ⟨V, eV, hb0, hC, hM, hz⟩ := sn_two w ga of sl dr lo hi ra
  have RC := fun u => cright_any ga of sl dr u
  by_cases h1 : id < 0 ∨ 255 < id ∨ pa < 0 ∨ 1000 < pa
  · rw [show snW id pa ga of sl dr lo hi ra sh = 2 by unfold snW; rw [if_pos h1]]
    have NW := Lib.hid (fun u => lknew_no id pa u h1)
    clear h h1 RC
    obtain ⟨c0, z0⟩ := hC.one 0 rfl
    obtain ⟨c1, z1⟩ := hC.one 1 rfl
    obtain ⟨c2, z2⟩ := hC.one 2 rfl
    obtain ⟨c3, z3⟩ := hC.one 3 rfl
    replace eV := Lib.hid eV
    replace hz := Lib.hid hz
    go_enter Try.func16, Try.ntmps16
    go_wp2_with fail
    rw [← eV.out]
    refine (NW.out _).mono ?_
    rintro e w' ⟨rfl, rfl⟩
    go_wp2
    go_ret2
    exact ⟨rfl, hb0⟩
  have NW := Lib.hid (fun u => lknew_ok id pa u (by omega))
  have NC : Calls Try.prog 16 #[.int .i64 id, .int .i64 pa, .agg #[.int .i64 ga, .int .i64 of, .int .i64 sl, .int .i64 dr], .agg #[.int .i64 lo, .int .i64 hi, .int .i64 ra], .int .i64 sh] w fun e w' => e = .returned (.tuple #[.pointer none, .int .i64 (snW id pa ga of sl dr lo hi ra sh)]) ∧ Below w.heap.size w w' := by
    cases hc : clR ga of sl dr
    · rw [hc] at RC
      rw [show snW id pa ga of sl dr lo hi ra sh = 1 by unfold snW; rw [if_neg h1, if_pos hc]]
      replace RC := Lib.hid RC
      clear h h1 hc
      obtain ⟨c0, z0⟩ := hC.one 0 rfl
      obtain ⟨c1, z1⟩ := hC.one 1 rfl
      obtain ⟨c2, z2⟩ := hC.one 2 rfl
      obtain ⟨c3, z3⟩ := hC.one 3 rfl
      replace eV := Lib.hid eV
      replace hz := Lib.hid hz
      go_enter Try.func16, Try.ntmps16
      go_wp2_with fail
      rw [← eV.out]
      refine (NW.out _).mono ?_
      rintro e w1 ⟨l, hl, rfl, k1, hb1⟩
      have hC1 := hC.bel hb1
      have hb1 := hb0.trans (hb1.mono hb0.size)
      clear c0 c1 c2 c3 z0 z1 z2 z3
      obtain ⟨c0, z0⟩ := hC1.one 0 rfl
      obtain ⟨c1, z1⟩ := hC1.one 1 rfl
      obtain ⟨c2, z2⟩ := hC1.one 2 rfl
      obtain ⟨c3, z3⟩ := hC1.one 3 rfl
      go_wp2_with fail
      refine (RC.out _).mono ?_
      rintro e w2 ⟨rfl, hb2⟩
      go_wp2
      go_ret2
      exact ⟨rfl, hb1.trans (hb2.mono hb1.size)⟩
    rw [hc] at RC
    replace RC := Lib.hid RC
    cases hg : gaR lo hi ra
    · rw [show snW id pa ga of sl dr lo hi ra sh = 2 by unfold snW; rw [if_neg h1, if_neg (by simp [hc]), if_pos hg]]
      have GN := Lib.hid (fun u => gnew_no lo hi ra u hg)
      clear h h1 hc hg
      obtain ⟨c0, z0⟩ := hC.one 0 rfl
      obtain ⟨c1, z1⟩ := hC.one 1 rfl
      obtain ⟨c2, z2⟩ := hC.one 2 rfl
      obtain ⟨c3, z3⟩ := hC.one 3 rfl
      replace eV := Lib.hid eV
      replace hz := Lib.hid hz
      go_enter Try.func16, Try.ntmps16
      go_wp2_with fail
      rw [← eV.out]
      refine (NW.out _).mono ?_
      rintro e w1 ⟨l, hl, rfl, k1, hb1⟩
      have hC1 := hC.bel hb1
      have hM1 := hM.bel hb1
      have hb1 := hb0.trans (hb1.mono hb0.size)
      clear c0 c1 c2 c3 z0 z1 z2 z3
      obtain ⟨c0, z0⟩ := hC1.one 0 rfl
      obtain ⟨c1, z1⟩ := hC1.one 1 rfl
      obtain ⟨c2, z2⟩ := hC1.one 2 rfl
      obtain ⟨c3, z3⟩ := hC1.one 3 rfl
      go_wp2_with fail
      refine (RC.out _).mono ?_
      rintro e w2 ⟨rfl, hb2⟩
      have hM2 := hM1.bel hb2
      have hb2 := hb1.trans (hb2.mono hb1.size)
      clear c0 c1 c2 c3 z0 z1 z2 z3
      obtain ⟨c0, z0⟩ := hM2.one 0 rfl
      obtain ⟨c1, z1⟩ := hM2.one 1 rfl
      obtain ⟨c2, z2⟩ := hM2.one 2 rfl
      go_wp2_with fail
      refine (GN.out _).mono ?_
      rintro e w3 ⟨rfl, hb3⟩
      go_wp2
      go_ret2
      exact ⟨rfl, hb2.trans (hb3.mono hb2.size)⟩
    have GN := Lib.hid (fun u => gnew_ok lo hi ra u hg)
    have hs : ¬ (0 ≤ sh ∧ sh ≤ 16) := by
      intro hq
      apply h
      unfold snW
      rw [if_neg h1, if_neg (by simp [hc]), if_neg (by simp [hg]), if_neg (by omega)]
    rw [show snW id pa ga of sl dr lo hi ra sh = 2 by unfold snW; rw [if_neg h1, if_neg (by simp [hc]), if_neg (by simp [hg]), if_pos (by omega)]]
    have LN := Lib.hid (fun u => lgnew_no sh u hs)
    clear h h1 hc hg hs
    obtain ⟨c0, z0⟩ := hC.one 0 rfl
    obtain ⟨c1, z1⟩ := hC.one 1 rfl
    obtain ⟨c2, z2⟩ := hC.one 2 rfl
    obtain ⟨c3, z3⟩ := hC.one 3 rfl
    replace eV := Lib.hid eV
    replace hz := Lib.hid hz
    go_enter Try.func16, Try.ntmps16
    go_wp2_with fail
    rw [← eV.out]
    refine (NW.out _).mono ?_
    rintro e w1 ⟨l, hl, rfl, k1, hb1⟩
    have hC1 := hC.bel hb1
    have hM1 := hM.bel hb1
    have hb1 := hb0.trans (hb1.mono hb0.size)
    clear c0 c1 c2 c3 z0 z1 z2 z3
    obtain ⟨c0, z0⟩ := hC1.one 0 rfl
    obtain ⟨c1, z1⟩ := hC1.one 1 rfl
    obtain ⟨c2, z2⟩ := hC1.one 2 rfl
    obtain ⟨c3, z3⟩ := hC1.one 3 rfl
    go_wp2_with fail
    refine (RC.out _).mono ?_
    rintro e w2 ⟨rfl, hb2⟩
    have hM2 := hM1.bel hb2
    have hb2 := hb1.trans (hb2.mono hb1.size)
    clear c0 c1 c2 c3 z0 z1 z2 z3
    obtain ⟨c0, z0⟩ := hM2.one 0 rfl
    obtain ⟨c1, z1⟩ := hM2.one 1 rfl
    obtain ⟨c2, z2⟩ := hM2.one 2 rfl
    go_wp2_with fail
    refine (GN.out _).mono ?_
    rintro e w3 ⟨g, hg, rfl, k3, hb3⟩
    have hb3 := hb2.trans (hb3.mono hb2.size)
    go_wp2_with fail
    refine (LN.out _).mono ?_
    rintro e w' ⟨rfl, rfl⟩
    go_wp2
    go_ret2
    exact ⟨rfl, hb3⟩
  exact NC
set_option maxRecDepth 100000 in
set_option maxHeartbeats 8000000 in
theorem snew_ok (id pa ga of sl dr lo hi ra sh : Int) (w : World) (h : snW id pa ga of sl dr lo hi ra sh = 0) : Calls Try.prog 16 #[.int .i64 id, .int .i64 pa, .agg #[.int .i64 ga, .int .i64 of, .int .i64 sl, .int .i64 dr], .agg #[.int .i64 lo, .int .i64 hi, .int .i64 ra], .int .i64 sh] w (SnP w.heap.size id pa ga of sl dr lo hi ra sh w) := by
  obtain ⟨V, eV, hb0, hC, hM, hz⟩ := sn_two w ga of sl dr lo hi ra
  have h1 : ¬ (id < 0 ∨ 255 < id ∨ pa < 0 ∨ 1000 < pa) := by intro q; unfold snW at h; rw [if_pos q] at h; omega
  have hc : clR ga of sl dr = true := by
    cases q : clR ga of sl dr
    · unfold snW at h; rw [if_neg h1, if_pos q] at h; omega
    · rfl
  have hg : gaR lo hi ra = true := by
    cases q : gaR lo hi ra
    · unfold snW at h; rw [if_neg h1, if_neg (by simp [hc]), if_pos q] at h; omega
    · rfl
  have hs : 0 ≤ sh ∧ sh ≤ 16 := by
    have : ¬ (sh < 0 ∨ 16 < sh) := by intro q; unfold snW at h; rw [if_neg h1, if_neg (by simp [hc]), if_neg (by simp [hg]), if_pos q] at h; omega
    omega
  have RC := fun u => cright_any ga of sl dr u
  rw [hc] at RC
  replace RC := Lib.hid RC
  have NW := Lib.hid (fun u => lknew_ok id pa u (by omega))
  have GN := Lib.hid (fun u => gnew_ok lo hi ra u hg)
  have LN := Lib.hid (fun u => lgnew_ok sh u hs.1 hs.2)
  clear h h1 hc hg hs
  unfold SnP
  obtain ⟨c0, z0⟩ := hC.one 0 rfl
  obtain ⟨c1, z1⟩ := hC.one 1 rfl
  obtain ⟨c2, z2⟩ := hC.one 2 rfl
  obtain ⟨c3, z3⟩ := hC.one 3 rfl
  replace eV := Lib.hid eV
  replace hz := Lib.hid hz
  go_enter Try.func16, Try.ntmps16
  go_wp2_with fail
  rw [← eV.out]
  refine (NW.out _).mono ?_
  rintro e w1 ⟨l, hl, rfl, k1, hb1⟩
  have hC1 := hC.bel hb1
  have hM1 := hM.bel hb1
  have hb1 := hb0.trans (hb1.mono hb0.size)
  have nl : w.heap.size ≤ l := by have := hb0.size; omega
  clear c0 c1 c2 c3 z0 z1 z2 z3
  obtain ⟨c0, z0⟩ := hC1.one 0 rfl
  obtain ⟨c1, z1⟩ := hC1.one 1 rfl
  obtain ⟨c2, z2⟩ := hC1.one 2 rfl
  obtain ⟨c3, z3⟩ := hC1.one 3 rfl
  go_wp2_with fail
  refine (RC.out _).mono ?_
  rintro e w2 ⟨rfl, hb2⟩
  have hC2 := hC1.bel hb2
  have hM2 := hM1.bel hb2
  have k2 := k1.bel hb2
  have hb2 := hb1.trans (hb2.mono hb1.size)
  clear c0 c1 c2 c3 z0 z1 z2 z3
  obtain ⟨c0, z0⟩ := hM2.one 0 rfl
  obtain ⟨c1, z1⟩ := hM2.one 1 rfl
  obtain ⟨c2, z2⟩ := hM2.one 2 rfl
  go_wp2_with fail
  refine (GN.out _).mono ?_
  rintro e w3 ⟨g, hg, rfl, g3, hb3⟩
  have hC3 := hC2.bel hb3
  have k3 := k2.bel hb3
  have nlg : l < g := by have := k2.lt; omega
  have hb3 := hb2.trans (hb3.mono hb2.size)
  clear c0 c1 c2 z0 z1 z2
  go_wp2_with fail
  refine (LN.out _).mono ?_
  rintro e w4 ⟨y, hy, rfl, y4, hb4⟩
  have hC4 := hC3.bel hb4
  have k4 := k3.bel hb4
  have g4 := g3.bel hb4
  have ngy : g < y := by have := g3.lt; omega
  have hb4 := hb3.trans (hb4.mono hb3.size)
  clear hC hM hC1 hM1 hC2 hM2 hC3 k1 k2 k3 g3 hb0 hb1 hb2 hb3 NW RC GN LN
  obtain ⟨c0, z0⟩ := hC4.one 0 rfl
  obtain ⟨c1, z1⟩ := hC4.one 1 rfl
  obtain ⟨c2, z2⟩ := hC4.one 2 rfl
  obtain ⟨c3, z3⟩ := hC4.one 3 rfl
  go_wp2
  go_ret2
  have yl := y4.lt
  refine ⟨w4.heap.size, l, g, y, by omega, nl, by omega, by omega, rfl, ⟨Held.new w4 (snC l g y ga of sl dr) _, k4.alloc _, g4.alloc _, y4.alloc _, by omega, by omega, by omega, by omega, by omega, by omega⟩, hb4.alloc hb4.size _⟩
set_option maxRecDepth 100000 in
set_option maxHeartbeats 8000000 in
theorem rswrong (id pa ga of sl dr lo hi ra sh : Int) (w : World) : Calls Try.prog 21 #[.int .i64 id, .int .i64 pa, .agg #[.int .i64 ga, .int .i64 of, .int .i64 sl, .int .i64 dr], .agg #[.int .i64 lo, .int .i64 hi, .int .i64 ra], .int .i64 sh] w fun e w' => e = .returned (.int .i64 (snW id pa ga of sl dr lo hi ra sh)) ∧ Below w.heap.size w w' := by
  obtain ⟨V, eV, hb0, hC, hM, hz⟩ := sn_two w ga of sl dr lo hi ra
  have RC := fun u => rright14_any ga of sl dr u
  have GR := fun u => gright_any lo hi ra u
  by_cases h1 : id < 0 ∨ 255 < id ∨ pa < 0 ∨ 1000 < pa
  · rw [show snW id pa ga of sl dr lo hi ra sh = 2 by unfold snW; rw [if_pos h1]]
    clear RC GR
    obtain ⟨c0, z0⟩ := hC.one 0 rfl
    obtain ⟨c1, z1⟩ := hC.one 1 rfl
    obtain ⟨c2, z2⟩ := hC.one 2 rfl
    obtain ⟨c3, z3⟩ := hC.one 3 rfl
    replace eV := Lib.hid eV
    replace hz := Lib.hid hz
    go_enter Try.func21, Try.ntmps21
    go_upto_region 1 with (fail)
    rw [← eV.out]
    go_wp2
    all_goals first | (exfalso; omega) | skip
    all_goals
      go_ret
      exact ⟨rfl, hb0⟩
  have NC : Calls Try.prog 21 #[.int .i64 id, .int .i64 pa, .agg #[.int .i64 ga, .int .i64 of, .int .i64 sl, .int .i64 dr], .agg #[.int .i64 lo, .int .i64 hi, .int .i64 ra], .int .i64 sh] w fun e w' => e = .returned (.int .i64 (snW id pa ga of sl dr lo hi ra sh)) ∧ Below w.heap.size w w' := by
    cases hc : clR ga of sl dr
    · rw [hc] at RC
      rw [show snW id pa ga of sl dr lo hi ra sh = 1 by unfold snW; rw [if_neg h1, if_pos hc]]
      replace RC := Lib.hid RC
      clear hc GR
      obtain ⟨c0, z0⟩ := hC.one 0 rfl
      obtain ⟨c1, z1⟩ := hC.one 1 rfl
      obtain ⟨c2, z2⟩ := hC.one 2 rfl
      obtain ⟨c3, z3⟩ := hC.one 3 rfl
      replace eV := Lib.hid eV
      replace hz := Lib.hid hz
      go_enter Try.func21, Try.ntmps21
      go_upto_region 1 with (fail)
      rw [← eV.out]
      go_wp2_with fail
      all_goals first | (exfalso; omega) | skip
      refine (RC.out _).mono ?_
      rintro e w2 ⟨rfl, hb2⟩
      go_wp2
      go_ret
      exact ⟨rfl, hb0.trans (hb2.mono hb0.size)⟩
    rw [hc] at RC
    replace RC := Lib.hid RC
    cases hg : gaR lo hi ra
    · rw [show snW id pa ga of sl dr lo hi ra sh = 2 by unfold snW; rw [if_neg h1, if_neg (by simp [hc]), if_pos hg]]
      rw [hg] at GR
      replace GR := Lib.hid GR
      clear hc hg
      obtain ⟨c0, z0⟩ := hC.one 0 rfl
      obtain ⟨c1, z1⟩ := hC.one 1 rfl
      obtain ⟨c2, z2⟩ := hC.one 2 rfl
      obtain ⟨c3, z3⟩ := hC.one 3 rfl
      replace eV := Lib.hid eV
      replace hz := Lib.hid hz
      go_enter Try.func21, Try.ntmps21
      go_upto_region 1 with (fail)
      rw [← eV.out]
      go_wp2_with fail
      all_goals first | (exfalso; omega) | skip
      refine (RC.out _).mono ?_
      rintro e w2 ⟨rfl, hb2⟩
      have hM2 := hM.bel hb2
      have hb2 := hb0.trans (hb2.mono hb0.size)
      clear c0 c1 c2 c3 z0 z1 z2 z3
      obtain ⟨c0, z0⟩ := hM2.one 0 rfl
      obtain ⟨c1, z1⟩ := hM2.one 1 rfl
      obtain ⟨c2, z2⟩ := hM2.one 2 rfl
      go_wp2_with fail
      refine (GR.out _).mono ?_
      rintro e w3 ⟨rfl, hb3⟩
      go_wp2
      go_ret
      exact ⟨rfl, hb2.trans (hb3.mono hb2.size)⟩
    rw [hg] at GR
    replace GR := Lib.hid GR
    by_cases hs : sh < 0 ∨ 16 < sh
    · rw [show snW id pa ga of sl dr lo hi ra sh = 2 by unfold snW; rw [if_neg h1, if_neg (by simp [hc]), if_neg (by simp [hg]), if_pos hs]]
      clear hc hg
      obtain ⟨c0, z0⟩ := hC.one 0 rfl
      obtain ⟨c1, z1⟩ := hC.one 1 rfl
      obtain ⟨c2, z2⟩ := hC.one 2 rfl
      obtain ⟨c3, z3⟩ := hC.one 3 rfl
      replace eV := Lib.hid eV
      replace hz := Lib.hid hz
      go_enter Try.func21, Try.ntmps21
      go_upto_region 1 with (fail)
      rw [← eV.out]
      go_wp2_with fail
      all_goals first | (exfalso; omega) | skip
      refine (RC.out _).mono ?_
      rintro e w2 ⟨rfl, hb2⟩
      have hM2 := hM.bel hb2
      have hb2 := hb0.trans (hb2.mono hb0.size)
      clear c0 c1 c2 c3 z0 z1 z2 z3
      obtain ⟨c0, z0⟩ := hM2.one 0 rfl
      obtain ⟨c1, z1⟩ := hM2.one 1 rfl
      obtain ⟨c2, z2⟩ := hM2.one 2 rfl
      go_wp2_with fail
      refine (GR.out _).mono ?_
      rintro e w3 ⟨rfl, hb3⟩
      go_wp2
      all_goals first | (exfalso; omega) | skip
      all_goals
        go_ret
        exact ⟨rfl, hb2.trans (hb3.mono hb2.size)⟩
    · rw [show snW id pa ga of sl dr lo hi ra sh = 0 by unfold snW; rw [if_neg h1, if_neg (by simp [hc]), if_neg (by simp [hg]), if_neg hs]]
      clear hc hg
      obtain ⟨c0, z0⟩ := hC.one 0 rfl
      obtain ⟨c1, z1⟩ := hC.one 1 rfl
      obtain ⟨c2, z2⟩ := hC.one 2 rfl
      obtain ⟨c3, z3⟩ := hC.one 3 rfl
      replace eV := Lib.hid eV
      replace hz := Lib.hid hz
      go_enter Try.func21, Try.ntmps21
      go_upto_region 1 with (fail)
      rw [← eV.out]
      go_wp2_with fail
      all_goals first | (exfalso; omega) | skip
      refine (RC.out _).mono ?_
      rintro e w2 ⟨rfl, hb2⟩
      have hM2 := hM.bel hb2
      have hb2 := hb0.trans (hb2.mono hb0.size)
      clear c0 c1 c2 c3 z0 z1 z2 z3
      obtain ⟨c0, z0⟩ := hM2.one 0 rfl
      obtain ⟨c1, z1⟩ := hM2.one 1 rfl
      obtain ⟨c2, z2⟩ := hM2.one 2 rfl
      go_wp2_with fail
      refine (GR.out _).mono ?_
      rintro e w3 ⟨rfl, hb3⟩
      go_wp2
      all_goals first | (exfalso; omega) | skip
      all_goals
        go_ret
        exact ⟨rfl, hb2.trans (hb3.mono hb2.size)⟩
  exact NC
end Go.Proofs.Ytbbmkmkalghaeaa
