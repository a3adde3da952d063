/- MgHg: HullM2 HullM4 HullM6 HullM7. -/
import Derived.Test.YtecpmffmmiogfaaGreatHullM1
import Derived.Test.YtecpmffmmiogfaaGreatSpeed5
import Derived.Test.YtecpmffmmiogfaaGreatRoot7
import Derived.Test.YtecpmffmmiogfaaGreatHeatZ3
namespace Go.Proofs.YtecpmffmmiogfaaGreat
open Go.ChangeShapes Go.WideShapes Go.ChangeAt Go.RowKit
set_option linter.unusedVariables false
set_option linter.unusedSimpArgs false
set_option maxRecDepth 100000 in
set_option maxHeartbeats 8000000 in
theorem hmachs (a b c d : Int) (ga : Dbl a) (gb : Dbl b) (gc : Dbl c) (gd : Dbl d) (h : a ≤ b) (k : c ≤ d) (w : World) : Calls Tryz.prog 21 #[.agg #[.int .i64 a, .int .i64 b], .agg #[.int .i64 c, .int .i64 d]] w fun e w' => e = .returned (if a < 0 ∨ c < 1 then .tuple #[.agg #[.int .i64 0, .int .i64 0], .bool false] else .tuple #[.agg #[.int .i64 (maV a d), .int .i64 (maV b c)], .bool true]) ∧ Below w.heap.size w w' := by
  have R0 := fun u => hright_any a b u
  rw [decide_eq_true h] at R0
  replace R0 := Lib.hid R0
  have R1 := fun u => hright_any c d u
  rw [decide_eq_true k] at R1
  replace R1 := Lib.hid R1
  have C0 := Lib.hid (fun u => mat_any a d u ga.1 ga.2 gd.1 gd.2)
  have C1 := Lib.hid (fun u => mat_any b c u gb.1 gb.2 gc.1 gc.2)
  clear ga gb gc gd h k
  obtain ⟨V, eV, hb0, hz, A0, A1, Z⟩ := hm_box3 w a b c d
  replace eV := Lib.hid eV
  replace hz := Lib.hid hz
  have M := Lib.hid hb0
  have q0 := A0
  obtain ⟨c00, f00⟩ := q0.one 0 rfl
  obtain ⟨c01, f01⟩ := q0.one 1 rfl
  have q1 := A1
  obtain ⟨c10, f10⟩ := q1.one 0 rfl
  obtain ⟨c11, f11⟩ := q1.one 1 rfl
  clear q0 q1 hb0
  replace A0 := Lib.hid A0
  replace A1 := Lib.hid A1
  replace Z := Lib.hid Z
  by_cases hg : a < 0 ∨ c < 1
  · rw [if_pos hg]
    rcases (show a < 0 ∨ (0 ≤ a ∧ c < 1) by omega) with g | ⟨g0, g⟩
    · clear hg
      go_enter Tryz.func21, Tryz.ntmps21
      go_upto_region 1 with (fail)
      rw [← eV.out]
      go_wp2_with fail
      refine (R0.out _).mono ?_
      rintro e w1 ⟨rfl, hb⟩
      replace A0 := Lib.hid (A0.out.bel hb)
      replace A1 := Lib.hid (A1.out.bel hb)
      replace Z := Lib.hid (Z.out.bel hb)
      replace M := Lib.hid (M.out.trans (hb.mono M.out.size))
      clear hb c00 c01 f00 f01 c10 c11 f10 f11
      have q0 := A0.out
      obtain ⟨c00, f00⟩ := q0.one 0 rfl
      obtain ⟨c01, f01⟩ := q0.one 1 rfl
      have q1 := A1.out
      obtain ⟨c10, f10⟩ := q1.one 0 rfl
      obtain ⟨c11, f11⟩ := q1.one 1 rfl
      clear q0 q1
      go_wp2_with fail
      refine (R1.out _).mono ?_
      rintro e w2 ⟨rfl, hb⟩
      replace A0 := Lib.hid (A0.out.bel hb)
      replace A1 := Lib.hid (A1.out.bel hb)
      replace Z := Lib.hid (Z.out.bel hb)
      replace M := Lib.hid (M.out.trans (hb.mono M.out.size))
      clear hb c00 c01 f00 f01 c10 c11 f10 f11
      have q0 := A0.out
      obtain ⟨c00, f00⟩ := q0.one 0 rfl
      obtain ⟨c01, f01⟩ := q0.one 1 rfl
      have q1 := A1.out
      obtain ⟨c10, f10⟩ := q1.one 0 rfl
      obtain ⟨c11, f11⟩ := q1.one 1 rfl
      clear q0 q1
      have qz := Z.out
      obtain ⟨d0, g0⟩ := qz.one 0 rfl
      obtain ⟨d1, g1⟩ := qz.one 1 rfl
      clear qz
      have h9 := (Z.out.set 0 (.int .i64 0) (by simp)).set 1 (.int .i64 0) (by simp)
      have m9 := Lib.hid ((M.out.setCell (p := ⟨w.heap.size + 2, 0, none⟩) (by show w.heap.size ≤ w.heap.size + 2; omega) (.int .i64 0)).setCell (p := ⟨w.heap.size + 2, 1, none⟩) (by show w.heap.size ≤ w.heap.size + 2; omega) (.int .i64 0))
      go_wp2
      have h8 := h9
      obtain ⟨p0, r0⟩ := h8.one 0 rfl
      obtain ⟨p1, r1⟩ := h8.one 1 rfl
      exact bodyPost_ret (v := .tuple #[.agg #[.int .i64 0, .int .i64 0], .bool false]) (by simp [results, Tryz.results21, go_sem, p0, p1]) rfl ⟨rfl, m9.out⟩
    · clear hg
      go_enter Tryz.func21, Tryz.ntmps21
      go_upto_region 1 with (fail)
      rw [← eV.out]
      go_wp2_with fail
      refine (R0.out _).mono ?_
      rintro e w1 ⟨rfl, hb⟩
      replace A0 := Lib.hid (A0.out.bel hb)
      replace A1 := Lib.hid (A1.out.bel hb)
      replace Z := Lib.hid (Z.out.bel hb)
      replace M := Lib.hid (M.out.trans (hb.mono M.out.size))
      clear hb c00 c01 f00 f01 c10 c11 f10 f11
      have q0 := A0.out
      obtain ⟨c00, f00⟩ := q0.one 0 rfl
      obtain ⟨c01, f01⟩ := q0.one 1 rfl
      have q1 := A1.out
      obtain ⟨c10, f10⟩ := q1.one 0 rfl
      obtain ⟨c11, f11⟩ := q1.one 1 rfl
      clear q0 q1
      go_wp2_with fail
      refine (R1.out _).mono ?_
      rintro e w2 ⟨rfl, hb⟩
      replace A0 := Lib.hid (A0.out.bel hb)
      replace A1 := Lib.hid (A1.out.bel hb)
      replace Z := Lib.hid (Z.out.bel hb)
      replace M := Lib.hid (M.out.trans (hb.mono M.out.size))
      clear hb c00 c01 f00 f01 c10 c11 f10 f11
      have q0 := A0.out
      obtain ⟨c00, f00⟩ := q0.one 0 rfl
      obtain ⟨c01, f01⟩ := q0.one 1 rfl
      have q1 := A1.out
      obtain ⟨c10, f10⟩ := q1.one 0 rfl
      obtain ⟨c11, f11⟩ := q1.one 1 rfl
      clear q0 q1
      have qz := Z.out
      obtain ⟨d0, g0⟩ := qz.one 0 rfl
      obtain ⟨d1, g1⟩ := qz.one 1 rfl
      clear qz
      have h9 := (Z.out.set 0 (.int .i64 0) (by simp)).set 1 (.int .i64 0) (by simp)
      have m9 := Lib.hid ((M.out.setCell (p := ⟨w.heap.size + 2, 0, none⟩) (by show w.heap.size ≤ w.heap.size + 2; omega) (.int .i64 0)).setCell (p := ⟨w.heap.size + 2, 1, none⟩) (by show w.heap.size ≤ w.heap.size + 2; omega) (.int .i64 0))
      go_wp2
      have h8 := h9
      obtain ⟨p0, r0⟩ := h8.one 0 rfl
      obtain ⟨p1, r1⟩ := h8.one 1 rfl
      exact bodyPost_ret (v := .tuple #[.agg #[.int .i64 0, .int .i64 0], .bool false]) (by simp [results, Tryz.results21, go_sem, p0, p1]) rfl ⟨rfl, m9.out⟩
  · rw [if_neg hg]
    have g0 : ¬ a < 0 := by omega
    have g1 : ¬ c < 1 := by omega
    clear hg
    obtain ⟨y0, eR0⟩ : ∃ y, maV a d = y := ⟨_, rfl⟩
    obtain ⟨y1, eR1⟩ : ∃ y, maV b c = y := ⟨_, rfl⟩
    rw [eR0] at C0
    rw [eR1] at C1
    replace eR0 := Lib.hid eR0
    replace eR1 := Lib.hid eR1
    go_enter Tryz.func21, Tryz.ntmps21
    go_upto_region 1 with (fail)
    rw [← eV.out]
    go_wp2_with fail
    refine (R0.out _).mono ?_
    rintro e w1 ⟨rfl, hb⟩
    replace A0 := Lib.hid (A0.out.bel hb)
    replace A1 := Lib.hid (A1.out.bel hb)
    replace Z := Lib.hid (Z.out.bel hb)
    replace M := Lib.hid (M.out.trans (hb.mono M.out.size))
    clear hb c00 c01 f00 f01 c10 c11 f10 f11
    have q0 := A0.out
    obtain ⟨c00, f00⟩ := q0.one 0 rfl
    obtain ⟨c01, f01⟩ := q0.one 1 rfl
    have q1 := A1.out
    obtain ⟨c10, f10⟩ := q1.one 0 rfl
    obtain ⟨c11, f11⟩ := q1.one 1 rfl
    clear q0 q1
    go_wp2_with fail
    refine (R1.out _).mono ?_
    rintro e w2 ⟨rfl, hb⟩
    replace A0 := Lib.hid (A0.out.bel hb)
    replace A1 := Lib.hid (A1.out.bel hb)
    replace Z := Lib.hid (Z.out.bel hb)
    replace M := Lib.hid (M.out.trans (hb.mono M.out.size))
    clear hb c00 c01 f00 f01 c10 c11 f10 f11
    have q0 := A0.out
    obtain ⟨c00, f00⟩ := q0.one 0 rfl
    obtain ⟨c01, f01⟩ := q0.one 1 rfl
    have q1 := A1.out
    obtain ⟨c10, f10⟩ := q1.one 0 rfl
    obtain ⟨c11, f11⟩ := q1.one 1 rfl
    clear q0 q1
    go_wp2_with fail
    refine (C0.out _).mono ?_
    rintro e w3 ⟨rfl, hb⟩
    replace A0 := Lib.hid (A0.out.bel hb)
    replace A1 := Lib.hid (A1.out.bel hb)
    replace Z := Lib.hid (Z.out.bel hb)
    replace M := Lib.hid (M.out.trans (hb.mono M.out.size))
    clear hb c00 c01 f00 f01 c10 c11 f10 f11
    have q0 := A0.out
    obtain ⟨c00, f00⟩ := q0.one 0 rfl
    obtain ⟨c01, f01⟩ := q0.one 1 rfl
    have q1 := A1.out
    obtain ⟨c10, f10⟩ := q1.one 0 rfl
    obtain ⟨c11, f11⟩ := q1.one 1 rfl
    clear q0 q1
    go_wp2_with fail
    refine (C1.out _).mono ?_
    rintro e w4 ⟨rfl, hb⟩
    replace A0 := Lib.hid (A0.out.bel hb)
    replace A1 := Lib.hid (A1.out.bel hb)
    replace Z := Lib.hid (Z.out.bel hb)
    replace M := Lib.hid (M.out.trans (hb.mono M.out.size))
    clear hb c00 c01 f00 f01 c10 c11 f10 f11
    have q0 := A0.out
    obtain ⟨c00, f00⟩ := q0.one 0 rfl
    obtain ⟨c01, f01⟩ := q0.one 1 rfl
    have q1 := A1.out
    obtain ⟨c10, f10⟩ := q1.one 0 rfl
    obtain ⟨c11, f11⟩ := q1.one 1 rfl
    clear q0 q1
    have qz := Z.out
    obtain ⟨d0, g0⟩ := qz.one 0 rfl
    obtain ⟨d1, g1⟩ := qz.one 1 rfl
    clear qz
    have h9 := (Z.out.set 0 (.int .i64 y0) (by simp)).set 1 (.int .i64 y1) (by simp)
    have m9 := Lib.hid ((M.out.setCell (p := ⟨w.heap.size + 2, 0, none⟩) (by show w.heap.size ≤ w.heap.size + 2; omega) (.int .i64 y0)).setCell (p := ⟨w.heap.size + 2, 1, none⟩) (by show w.heap.size ≤ w.heap.size + 2; omega) (.int .i64 y1))
    go_wp2
    have h8 := h9
    obtain ⟨p0, r0⟩ := h8.one 0 rfl
    obtain ⟨p1, r1⟩ := h8.one 1 rfl
    exact bodyPost_ret (v := .tuple #[.agg #[.int .i64 y0, .int .i64 y1], .bool true]) (by simp [results, Tryz.results21, go_sem, p0, p1]) rfl ⟨by rw [eR0.out, eR1.out], m9.out⟩
end Go.Proofs.YtecpmffmmiogfaaGreat
namespace Go.Proofs.YtecpmffmmiogfaaGreat
open Go.ChangeShapes Go.WideShapes Go.ChangeAt Go.RowKit
set_option linter.unusedVariables false
set_option linter.unusedSimpArgs false
set_option maxRecDepth 100000 in
set_option maxHeartbeats 8000000 in
theorem lwright (a b : Int) (w : World) : Calls Tryz.prog 14 #[.agg #[.int .i64 a, .int .i64 b]] w fun e w' => e = .returned (.bool (decide (a ≤ b))) ∧ Below w.heap.size w w' := by
  obtain ⟨V, eV, hb0, A0⟩ : ∃ V, V = w.alloc (.cells #[.int .i64 a, .int .i64 b] 51) ∧ Below w.heap.size w V ∧ Held w.heap.size [.int .i64 a, .int .i64 b] V := ⟨_, rfl, (Below.refl _ _).alloc (Nat.le_refl _) _, Held.new w [.int .i64 a, .int .i64 b] _⟩
  replace eV := Lib.hid eV
  obtain ⟨c0, f0⟩ := A0.one 0 rfl
  obtain ⟨c1, f1⟩ := A0.one 1 rfl
  go_enter Tryz.func14, Tryz.ntmps14
  go_upto_region 1 with (fail)
  rw [← eV.out]
  go_wp2
  go_ret
  exact ⟨rfl, hb0⟩
set_option maxRecDepth 100000 in
set_option maxHeartbeats 8000000 in
theorem hheights_no (a b : Int) (z : Nat) (w : World) (h : ¬ a ≤ b) : Calls Tryz.prog 17 #[.pointer (some ⟨z, 0, none⟩), .agg #[.int .i64 a, .int .i64 b]] w fun e w' => e = .returned (.agg #[.int .i64 0, .int .i64 0]) ∧ Below w.heap.size w w' := by
  have R0 := fun u => hright_any a b u
  rw [decide_eq_false h] at R0
  replace R0 := Lib.hid R0
  obtain ⟨V, eV, hb0, hz, A0, Z⟩ := hm_box2 w a b
  have M := Lib.hid hb0
  clear hb0
  replace eV := Lib.hid eV
  replace hz := Lib.hid hz
  have q0 := A0
  obtain ⟨c00, f00⟩ := q0.one 0 rfl
  obtain ⟨c01, f01⟩ := q0.one 1 rfl
  clear q0
  replace A0 := Lib.hid A0
  replace Z := Lib.hid Z
  clear h
  go_enter Tryz.func17, Tryz.ntmps17
  go_upto_region 1 with (fail)
  rw [← eV.out]
  go_wp2_with fail
  refine (R0.out _).mono ?_
  rintro e w1 ⟨rfl, hb⟩
  replace Z := Lib.hid (Z.out.bel hb)
  replace M := Lib.hid (M.out.trans (hb.mono M.out.size))
  clear hb c00 c01 f00 f01 A0
  have qz := Z.out
  obtain ⟨d0, g0⟩ := qz.one 0 rfl
  obtain ⟨d1, g1⟩ := qz.one 1 rfl
  clear qz
  have h9 := (Z.out.set 0 (.int .i64 0) (by simp)).set 1 (.int .i64 0) (by simp)
  have m9 := Lib.hid ((M.out.setCell (p := ⟨w.heap.size + 1, 0, none⟩) (by show w.heap.size ≤ w.heap.size + 1; omega) (.int .i64 0)).setCell (p := ⟨w.heap.size + 1, 1, none⟩) (by show w.heap.size ≤ w.heap.size + 1; omega) (.int .i64 0))
  go_wp2
  have h8 := h9
  obtain ⟨p0, r0⟩ := h8.one 0 rfl
  obtain ⟨p1, r1⟩ := h8.one 1 rfl
  exact bodyPost_ret (v := .agg #[.int .i64 0, .int .i64 0]) (by simp [results, Tryz.results17, go_sem, p0, p1]) rfl ⟨rfl, m9.out⟩
set_option maxRecDepth 100000 in
set_option maxHeartbeats 8000000 in
theorem hspeeds_no (a b : Int) (w : World) (h : ¬ a ≤ b) : Calls Tryz.prog 18 #[.agg #[.int .i64 a, .int .i64 b]] w fun e w' => e = .returned (.agg #[.int .i64 0, .int .i64 0]) ∧ Below w.heap.size w w' := by
  have R0 := fun u => hright_any a b u
  rw [decide_eq_false h] at R0
  replace R0 := Lib.hid R0
  obtain ⟨V, eV, hb0, hz, A0, Z⟩ := hm_box2 w a b
  have M := Lib.hid hb0
  clear hb0
  replace eV := Lib.hid eV
  replace hz := Lib.hid hz
  have q0 := A0
  obtain ⟨c00, f00⟩ := q0.one 0 rfl
  obtain ⟨c01, f01⟩ := q0.one 1 rfl
  clear q0
  replace A0 := Lib.hid A0
  replace Z := Lib.hid Z
  clear h
  go_enter Tryz.func18, Tryz.ntmps18
  go_upto_region 1 with (fail)
  rw [← eV.out]
  go_wp2_with fail
  refine (R0.out _).mono ?_
  rintro e w1 ⟨rfl, hb⟩
  replace Z := Lib.hid (Z.out.bel hb)
  replace M := Lib.hid (M.out.trans (hb.mono M.out.size))
  clear hb c00 c01 f00 f01 A0
  have qz := Z.out
  obtain ⟨d0, g0⟩ := qz.one 0 rfl
  obtain ⟨d1, g1⟩ := qz.one 1 rfl
  clear qz
  have h9 := (Z.out.set 0 (.int .i64 0) (by simp)).set 1 (.int .i64 0) (by simp)
  have m9 := Lib.hid ((M.out.setCell (p := ⟨w.heap.size + 1, 0, none⟩) (by show w.heap.size ≤ w.heap.size + 1; omega) (.int .i64 0)).setCell (p := ⟨w.heap.size + 1, 1, none⟩) (by show w.heap.size ≤ w.heap.size + 1; omega) (.int .i64 0))
  go_wp2
  have h8 := h9
  obtain ⟨p0, r0⟩ := h8.one 0 rfl
  obtain ⟨p1, r1⟩ := h8.one 1 rfl
  exact bodyPost_ret (v := .agg #[.int .i64 0, .int .i64 0]) (by simp [results, Tryz.results18, go_sem, p0, p1]) rfl ⟨rfl, m9.out⟩
set_option maxRecDepth 100000 in
set_option maxHeartbeats 8000000 in
theorem htemps_no1 (a b c d r : Int) (w : World) (h : ¬ a ≤ b) : Calls Tryz.prog 19 #[.agg #[.int .i64 a, .int .i64 b], .agg #[.int .i64 c, .int .i64 d], .int .i64 r] w fun e w' => e = .returned (.agg #[.int .i64 0, .int .i64 0]) ∧ Below w.heap.size w w' := by
  have R0 := fun u => hright_any a b u
  have R1 := fun u => hright_any c d u
  rw [decide_eq_false h] at R0
  replace R0 := Lib.hid R0
  replace R1 := Lib.hid R1
  obtain ⟨V, eV, hb0, hz, A0, A1, Z⟩ := hm_box3 w a b c d
  have M := Lib.hid hb0
  clear hb0
  replace eV := Lib.hid eV
  replace hz := Lib.hid hz
  have q0 := A0
  obtain ⟨c00, f00⟩ := q0.one 0 rfl
  obtain ⟨c01, f01⟩ := q0.one 1 rfl
  clear q0
  replace A0 := Lib.hid A0
  replace A1 := Lib.hid A1
  replace Z := Lib.hid Z
  clear h
  go_enter Tryz.func19, Tryz.ntmps19
  go_upto_region 1 with (fail)
  rw [← eV.out]
  go_wp2_with fail
  refine (R0.out _).mono ?_
  rintro e w1 ⟨rfl, hb⟩
  replace Z := Lib.hid (Z.out.bel hb)
  replace A1 := Lib.hid (A1.out.bel hb)
  replace M := Lib.hid (M.out.trans (hb.mono M.out.size))
  clear hb c00 c01 f00 f01 A0
  have qz := Z.out
  obtain ⟨d0, g0⟩ := qz.one 0 rfl
  obtain ⟨d1, g1⟩ := qz.one 1 rfl
  clear qz
  have h9 := (Z.out.set 0 (.int .i64 0) (by simp)).set 1 (.int .i64 0) (by simp)
  have m9 := Lib.hid ((M.out.setCell (p := ⟨w.heap.size + 1 + 1, 0, none⟩) (by show w.heap.size ≤ w.heap.size + 1 + 1; omega) (.int .i64 0)).setCell (p := ⟨w.heap.size + 1 + 1, 1, none⟩) (by show w.heap.size ≤ w.heap.size + 1 + 1; omega) (.int .i64 0))
  go_wp2
  have h8 := h9
  obtain ⟨p0, r0⟩ := h8.one 0 rfl
  obtain ⟨p1, r1⟩ := h8.one 1 rfl
  exact bodyPost_ret (v := .agg #[.int .i64 0, .int .i64 0]) (by simp [results, Tryz.results19, go_sem, p0, p1]) rfl ⟨rfl, m9.out⟩
set_option maxRecDepth 100000 in
set_option maxHeartbeats 8000000 in
theorem htemps_no2 (a b c d r : Int) (w : World) (h : a ≤ b) (k : ¬ c ≤ d) : Calls Tryz.prog 19 #[.agg #[.int .i64 a, .int .i64 b], .agg #[.int .i64 c, .int .i64 d], .int .i64 r] w fun e w' => e = .returned (.agg #[.int .i64 0, .int .i64 0]) ∧ Below w.heap.size w w' := by
  have R0 := fun u => hright_any a b u
  have R1 := fun u => hright_any c d u
  rw [decide_eq_true h] at R0
  rw [decide_eq_false k] at R1
  replace R0 := Lib.hid R0
  replace R1 := Lib.hid R1
  obtain ⟨V, eV, hb0, hz, A0, A1, Z⟩ := hm_box3 w a b c d
  have M := Lib.hid hb0
  clear hb0
  replace eV := Lib.hid eV
  replace hz := Lib.hid hz
  have q0 := A0
  obtain ⟨c00, f00⟩ := q0.one 0 rfl
  obtain ⟨c01, f01⟩ := q0.one 1 rfl
  clear q0
  replace A0 := Lib.hid A0
  replace A1 := Lib.hid A1
  replace Z := Lib.hid Z
  clear h
  go_enter Tryz.func19, Tryz.ntmps19
  go_upto_region 1 with (fail)
  rw [← eV.out]
  go_wp2_with fail
  refine (R0.out _).mono ?_
  rintro e w1 ⟨rfl, hb⟩
  replace Z := Lib.hid (Z.out.bel hb)
  replace A1 := Lib.hid (A1.out.bel hb)
  replace M := Lib.hid (M.out.trans (hb.mono M.out.size))
  clear hb c00 c01 f00 f01 A0
  have q1 := A1.out
  obtain ⟨c10, f10⟩ := q1.one 0 rfl
  obtain ⟨c11, f11⟩ := q1.one 1 rfl
  clear q1
  go_wp2_with fail
  refine (R1.out _).mono ?_
  rintro e w2 ⟨rfl, hb⟩
  replace Z := Lib.hid (Z.out.bel hb)
  replace M := Lib.hid (M.out.trans (hb.mono M.out.size))
  clear hb c10 c11 f10 f11 A1
  have qz := Z.out
  obtain ⟨d0, g0⟩ := qz.one 0 rfl
  obtain ⟨d1, g1⟩ := qz.one 1 rfl
  clear qz
  have h9 := (Z.out.set 0 (.int .i64 0) (by simp)).set 1 (.int .i64 0) (by simp)
  have m9 := Lib.hid ((M.out.setCell (p := ⟨w.heap.size + 1 + 1, 0, none⟩) (by show w.heap.size ≤ w.heap.size + 1 + 1; omega) (.int .i64 0)).setCell (p := ⟨w.heap.size + 1 + 1, 1, none⟩) (by show w.heap.size ≤ w.heap.size + 1 + 1; omega) (.int .i64 0))
  go_wp2
  have h8 := h9
  obtain ⟨p0, r0⟩ := h8.one 0 rfl
  obtain ⟨p1, r1⟩ := h8.one 1 rfl
  exact bodyPost_ret (v := .agg #[.int .i64 0, .int .i64 0]) (by simp [results, Tryz.results19, go_sem, p0, p1]) rfl ⟨rfl, m9.out⟩
set_option maxRecDepth 100000 in
set_option maxHeartbeats 8000000 in
theorem htrues_no1 (a b c d : Int) (w : World) (h : ¬ a ≤ b) : Calls Tryz.prog 20 #[.agg #[.int .i64 a, .int .i64 b], .agg #[.int .i64 c, .int .i64 d]] w fun e w' => e = .returned (.agg #[.int .i64 0, .int .i64 0]) ∧ Below w.heap.size w w' := by
  have R0 := fun u => hright_any a b u
  have R1 := fun u => hright_any c d u
  rw [decide_eq_false h] at R0
  replace R0 := Lib.hid R0
  replace R1 := Lib.hid R1
  obtain ⟨V, eV, hb0, hz, A0, A1, Z⟩ := hm_box3 w a b c d
  have M := Lib.hid hb0
  clear hb0
  replace eV := Lib.hid eV
  replace hz := Lib.hid hz
  have q0 := A0
  obtain ⟨c00, f00⟩ := q0.one 0 rfl
  obtain ⟨c01, f01⟩ := q0.one 1 rfl
  clear q0
  replace A0 := Lib.hid A0
  replace A1 := Lib.hid A1
  replace Z := Lib.hid Z
  clear h
  go_enter Tryz.func20, Tryz.ntmps20
  go_upto_region 1 with (fail)
  rw [← eV.out]
  go_wp2_with fail
  refine (R0.out _).mono ?_
  rintro e w1 ⟨rfl, hb⟩
  replace Z := Lib.hid (Z.out.bel hb)
  replace A1 := Lib.hid (A1.out.bel hb)
  replace M := Lib.hid (M.out.trans (hb.mono M.out.size))
  clear hb c00 c01 f00 f01 A0
  have qz := Z.out
  obtain ⟨d0, g0⟩ := qz.one 0 rfl
  obtain ⟨d1, g1⟩ := qz.one 1 rfl
  clear qz
  have h9 := (Z.out.set 0 (.int .i64 0) (by simp)).set 1 (.int .i64 0) (by simp)
  have m9 := Lib.hid ((M.out.setCell (p := ⟨w.heap.size + 1 + 1, 0, none⟩) (by show w.heap.size ≤ w.heap.size + 1 + 1; omega) (.int .i64 0)).setCell (p := ⟨w.heap.size + 1 + 1, 1, none⟩) (by show w.heap.size ≤ w.heap.size + 1 + 1; omega) (.int .i64 0))
  go_wp2
  have h8 := h9
  obtain ⟨p0, r0⟩ := h8.one 0 rfl
  obtain ⟨p1, r1⟩ := h8.one 1 rfl
  exact bodyPost_ret (v := .agg #[.int .i64 0, .int .i64 0]) (by simp [results, Tryz.results20, go_sem, p0, p1]) rfl ⟨rfl, m9.out⟩
set_option maxRecDepth 100000 in
set_option maxHeartbeats 8000000 in
theorem htrues_no2 (a b c d : Int) (w : World) (h : a ≤ b) (k : ¬ c ≤ d) : Calls Tryz.prog 20 #[.agg #[.int .i64 a, .int .i64 b], .agg #[.int .i64 c, .int .i64 d]] w fun e w' => e = .returned (.agg #[.int .i64 0, .int .i64 0]) ∧ Below w.heap.size w w' := by
  have R0 := fun u => hright_any a b u
  have R1 := fun u => hright_any c d u
  rw [decide_eq_true h] at R0
  rw [decide_eq_false k] at R1
  replace R0 := Lib.hid R0
  replace R1 := Lib.hid R1
  obtain ⟨V, eV, hb0, hz, A0, A1, Z⟩ := hm_box3 w a b c d
  have M := Lib.hid hb0
  clear hb0
  replace eV := Lib.hid eV
  replace hz := Lib.hid hz
  have q0 := A0
  obtain ⟨c00, f00⟩ := q0.one 0 rfl
  obtain ⟨c01, f01⟩ := q0.one 1 rfl
  clear q0
  replace A0 := Lib.hid A0
  replace A1 := Lib.hid A1
  replace Z := Lib.hid Z
  clear h
  go_enter Tryz.func20, Tryz.ntmps20
  go_upto_region 1 with (fail)
  rw [← eV.out]
  go_wp2_with fail
  refine (R0.out _).mono ?_
  rintro e w1 ⟨rfl, hb⟩
  replace Z := Lib.hid (Z.out.bel hb)
  replace A1 := Lib.hid (A1.out.bel hb)
  replace M := Lib.hid (M.out.trans (hb.mono M.out.size))
  clear hb c00 c01 f00 f01 A0
  have q1 := A1.out
  obtain ⟨c10, f10⟩ := q1.one 0 rfl
  obtain ⟨c11, f11⟩ := q1.one 1 rfl
  clear q1
  go_wp2_with fail
  refine (R1.out _).mono ?_
  rintro e w2 ⟨rfl, hb⟩
  replace Z := Lib.hid (Z.out.bel hb)
  replace M := Lib.hid (M.out.trans (hb.mono M.out.size))
  clear hb c10 c11 f10 f11 A1
  have qz := Z.out
  obtain ⟨d0, g0⟩ := qz.one 0 rfl
  obtain ⟨d1, g1⟩ := qz.one 1 rfl
  clear qz
  have h9 := (Z.out.set 0 (.int .i64 0) (by simp)).set 1 (.int .i64 0) (by simp)
  have m9 := Lib.hid ((M.out.setCell (p := ⟨w.heap.size + 1 + 1, 0, none⟩) (by show w.heap.size ≤ w.heap.size + 1 + 1; omega) (.int .i64 0)).setCell (p := ⟨w.heap.size + 1 + 1, 1, none⟩) (by show w.heap.size ≤ w.heap.size + 1 + 1; omega) (.int .i64 0))
  go_wp2
  have h8 := h9
  obtain ⟨p0, r0⟩ := h8.one 0 rfl
  obtain ⟨p1, r1⟩ := h8.one 1 rfl
  exact bodyPost_ret (v := .agg #[.int .i64 0, .int .i64 0]) (by simp [results, Tryz.results20, go_sem, p0, p1]) rfl ⟨rfl, m9.out⟩
end Go.Proofs.YtecpmffmmiogfaaGreat
namespace Go.Proofs.YtecpmffmmiogfaaGreat
open Go.ChangeShapes Go.WideShapes Go.ChangeAt Go.RowKit
set_option linter.unusedVariables false
set_option linter.unusedSimpArgs false
set_option maxHeartbeats 2000000 in
theorem rsound_any (t : Int) (w : World) : Calls Tryz.prog 38 #[.int .i64 t] w fun e w' => e = .returned (.int .i64 (spS t)) ∧ w = w' := by
  have h := spT_bd t
  have CL := fun u => c09_any t 1 1000000 (by omega) u
  rw [c09_spT] at CL
  replace CL := Lib.hid CL
  have R := fun u => rsqrt_any (4018742 * spT t / 1000) u (by omega) (by omega)
  rw [show rt (4018742 * spT t / 1000) = spS t from rfl] at R
  replace R := Lib.hid R
  generalize spS t = S at *
  generalize spT t = T at *
  go_enter Tryz.func38, Tryz.ntmps38
  go_wp2_with fail
  refine (CL.out _).mono ?_
  rintro e w1 ⟨rfl, rfl⟩
  go_wp2_with fail
  refine (R.out _).mono ?_
  rintro e w2 ⟨rfl, rfl⟩
  go_wp2
  go_ret
  exact ⟨rfl, rfl⟩
set_option maxHeartbeats 2000000 in
theorem rtrue_any (m t : Int) (w : World) : Calls Tryz.prog 16 #[.int .i64 m, .int .i64 t] w fun e w' => e = .returned (.int .i64 (spTr m t)) ∧ w = w' := by
  have SO := Lib.hid (fun u => rsound_any t u)
  have p := spTr_p m t
  have HV := Lib.hid (show spTr m t = spM m * spS t / 10000 from rfl)
  have C := fun u => c09_any m 0 20000 (by omega) u
  rw [show c09 m 0 20000 = spM m from rfl] at C
  replace C := Lib.hid C
  generalize spTr m t = V at *
  generalize spS t = S at *
  generalize spM m = M at *
  go_enter Tryz.func16, Tryz.ntmps16
  go_wp2_with fail
  refine (C.out _).mono ?_
  rintro e w1 ⟨rfl, rfl⟩
  go_wp2_with fail
  refine (SO.out _).mono ?_
  rintro e w1 ⟨rfl, rfl⟩
  go_wp2
  go_ret
  exact ⟨ret_int HV.out.symm, rfl⟩
end Go.Proofs.YtecpmffmmiogfaaGreat
namespace Go.Proofs.YtecpmffmmiogfaaGreat
open Go.ChangeShapes Go.WideShapes Go.ChangeAt Go.RowKit
set_option linter.unusedVariables false
set_option linter.unusedSimpArgs false
def z0F : Nat → Int := fun _ => 0
noncomputable def zAF (P : Nat → Int) (i : Nat) : Int := if P 0 ≤ P 1 then (if i = 0 then heV (P 1) else heV (P 0)) else 0
noncomputable def zBF (Q : Nat → Int) (i : Nat) : Int := if Q 0 ≤ Q 1 then (if i = 0 then spCa (Q 0) else spCa (Q 1)) else 0
noncomputable def zCF (M T : Nat → Int) (r : Int) (i : Nat) : Int := if M 0 ≤ M 1 ∧ T 0 ≤ T 1 then (if i = 0 then htS (T 0) (M 1) r else htS (T 1) (M 0) r) else 0
noncomputable def zDF (M T : Nat → Int) (i : Nat) : Int := if M 0 ≤ M 1 ∧ T 0 ≤ T 1 then (if i = 0 then spTr (M 0) (T 0) else spTr (M 1) (T 1)) else 0
theorem he_all (P : Nat → Int) (wa w : World) (hm : AirW wa w) : Calls Tryz.prog 17 #[.pointer (some ⟨wa.heap.size, 0, none⟩), .agg #[.int .i64 (P 0), .int .i64 (P 1)]] w fun e w' => e = .returned (.agg #[.int .i64 (zAF P 0), .int .i64 (zAF P 1)]) ∧ AirW wa w' ∧ Beside wa.heap.size w w' := by
  by_cases h : P 0 ≤ P 1
  · refine (hheights (P 0) (P 1) wa w hm h).mono ?_
    rintro e w' ⟨rfl, a, b⟩
    exact ⟨by simp [zAF, h], a, b⟩
  · refine (hheights_no (P 0) (P 1) wa.heap.size w h).mono ?_
    rintro e w' ⟨rfl, b⟩
    exact ⟨by simp [zAF, h], hm.bel b, Beside.of_below b⟩
theorem se_all (Q : Nat → Int) (g0 : Dbl (Q 0)) (g1 : Dbl (Q 1)) (w : World) : Calls Tryz.prog 18 #[.agg #[.int .i64 (Q 0), .int .i64 (Q 1)]] w fun e w' => e = .returned (.agg #[.int .i64 (zBF Q 0), .int .i64 (zBF Q 1)]) ∧ Below w.heap.size w w' := by
  by_cases h : Q 0 ≤ Q 1
  · refine (hspeeds (Q 0) (Q 1) g0 g1 h w).mono ?_
    rintro e w' ⟨rfl, b⟩
    exact ⟨by simp [zBF, h], b⟩
  · refine (hspeeds_no (Q 0) (Q 1) w h).mono ?_
    rintro e w' ⟨rfl, b⟩
    exact ⟨by simp [zBF, h], b⟩
theorem te_all (M T : Nat → Int) (r : Int) (w : World) : Calls Tryz.prog 19 #[.agg #[.int .i64 (T 0), .int .i64 (T 1)], .agg #[.int .i64 (M 0), .int .i64 (M 1)], .int .i64 r] w fun e w' => e = .returned (.agg #[.int .i64 (zCF M T r 0), .int .i64 (zCF M T r 1)]) ∧ Below w.heap.size w w' := by
  by_cases h : T 0 ≤ T 1
  · by_cases k : M 0 ≤ M 1
    · refine (htemps (T 0) (T 1) (M 0) (M 1) r h k w).mono ?_
      rintro e w' ⟨rfl, b⟩
      exact ⟨by simp [zCF, h, k], b⟩
    · refine (htemps_no2 (T 0) (T 1) (M 0) (M 1) r w h k).mono ?_
      rintro e w' ⟨rfl, b⟩
      exact ⟨by simp [zCF, h, k], b⟩
  · refine (htemps_no1 (T 0) (T 1) (M 0) (M 1) r w h).mono ?_
    rintro e w' ⟨rfl, b⟩
    exact ⟨by simp [zCF, h], b⟩
theorem tr_all (M T : Nat → Int) (w : World) : Calls Tryz.prog 20 #[.agg #[.int .i64 (M 0), .int .i64 (M 1)], .agg #[.int .i64 (T 0), .int .i64 (T 1)]] w fun e w' => e = .returned (.agg #[.int .i64 (zDF M T 0), .int .i64 (zDF M T 1)]) ∧ Below w.heap.size w w' := by
  by_cases h : M 0 ≤ M 1
  · by_cases k : T 0 ≤ T 1
    · refine (htrues (M 0) (M 1) (T 0) (T 1) h k w).mono ?_
      rintro e w' ⟨rfl, b⟩
      exact ⟨by simp [zDF, h, k], b⟩
    · refine (htrues_no2 (M 0) (M 1) (T 0) (T 1) w h k).mono ?_
      rintro e w' ⟨rfl, b⟩
      exact ⟨by simp [zDF, h, k], b⟩
  · refine (htrues_no1 (M 0) (M 1) (T 0) (T 1) w h).mono ?_
    rintro e w' ⟨rfl, b⟩
    exact ⟨by simp [zDF, h], b⟩
set_option maxRecDepth 100000 in
set_option maxHeartbeats 8000000 in
theorem hmachs_no1 (a b c d : Int) (h : ¬ a ≤ b) (w : World) : Calls Tryz.prog 21 #[.agg #[.int .i64 a, .int .i64 b], .agg #[.int .i64 c, .int .i64 d]] w fun e w' => e = .returned (.tuple #[.agg #[.int .i64 0, .int .i64 0], .bool false]) ∧ Below w.heap.size w w' := by
  have R0 := fun u => hright_any a b u
  rw [decide_eq_false h] at R0
  replace R0 := Lib.hid R0
  obtain ⟨V, eV, hb0, hz, A0, A1, Z⟩ := hm_box3 w a b c d
  replace eV := Lib.hid eV
  replace hz := Lib.hid hz
  have M := Lib.hid hb0
  have q0 := A0
  obtain ⟨c00, f00⟩ := q0.one 0 rfl
  obtain ⟨c01, f01⟩ := q0.one 1 rfl
  have q1 := A1
  obtain ⟨c10, f10⟩ := q1.one 0 rfl
  obtain ⟨c11, f11⟩ := q1.one 1 rfl
  clear q0 q1 hb0 h
  replace A0 := Lib.hid A0
  replace A1 := Lib.hid A1
  replace Z := Lib.hid Z
  go_enter Tryz.func21, Tryz.ntmps21
  go_upto_region 1 with (fail)
  rw [← eV.out]
  go_wp2_with fail
  refine (R0.out _).mono ?_
  rintro e w1 ⟨rfl, hb⟩
  replace A0 := Lib.hid (A0.out.bel hb)
  replace A1 := Lib.hid (A1.out.bel hb)
  replace Z := Lib.hid (Z.out.bel hb)
  replace M := Lib.hid (M.out.trans (hb.mono M.out.size))
  clear hb c00 c01 f00 f01 c10 c11 f10 f11
  have q0 := A0.out
  obtain ⟨c00, f00⟩ := q0.one 0 rfl
  obtain ⟨c01, f01⟩ := q0.one 1 rfl
  have q1 := A1.out
  obtain ⟨c10, f10⟩ := q1.one 0 rfl
  obtain ⟨c11, f11⟩ := q1.one 1 rfl
  clear q0 q1
  have qz := Z.out
  obtain ⟨d0, g0⟩ := qz.one 0 rfl
  obtain ⟨d1, g1⟩ := qz.one 1 rfl
  clear qz
  have h9 := (Z.out.set 0 (.int .i64 0) (by simp)).set 1 (.int .i64 0) (by simp)
  have m9 := Lib.hid ((M.out.setCell (p := ⟨w.heap.size + 2, 0, none⟩) (by show w.heap.size ≤ w.heap.size + 2; omega) (.int .i64 0)).setCell (p := ⟨w.heap.size + 2, 1, none⟩) (by show w.heap.size ≤ w.heap.size + 2; omega) (.int .i64 0))
  go_wp2
  have h8 := h9
  obtain ⟨p0, r0⟩ := h8.one 0 rfl
  obtain ⟨p1, r1⟩ := h8.one 1 rfl
  exact bodyPost_ret (v := .tuple #[.agg #[.int .i64 0, .int .i64 0], .bool false]) (by simp [results, Tryz.results21, go_sem, p0, p1]) rfl ⟨rfl, m9.out⟩
set_option maxRecDepth 100000 in
set_option maxHeartbeats 8000000 in
theorem hmachs_no2 (a b c d : Int) (h : a ≤ b) (k : ¬ c ≤ d) (w : World) : Calls Tryz.prog 21 #[.agg #[.int .i64 a, .int .i64 b], .agg #[.int .i64 c, .int .i64 d]] w fun e w' => e = .returned (.tuple #[.agg #[.int .i64 0, .int .i64 0], .bool false]) ∧ Below w.heap.size w w' := by
  have R0 := fun u => hright_any a b u
  rw [decide_eq_true h] at R0
  replace R0 := Lib.hid R0
  have R1 := fun u => hright_any c d u
  rw [decide_eq_false k] at R1
  replace R1 := Lib.hid R1
  obtain ⟨V, eV, hb0, hz, A0, A1, Z⟩ := hm_box3 w a b c d
  replace eV := Lib.hid eV
  replace hz := Lib.hid hz
  have M := Lib.hid hb0
  have q0 := A0
  obtain ⟨c00, f00⟩ := q0.one 0 rfl
  obtain ⟨c01, f01⟩ := q0.one 1 rfl
  have q1 := A1
  obtain ⟨c10, f10⟩ := q1.one 0 rfl
  obtain ⟨c11, f11⟩ := q1.one 1 rfl
  clear q0 q1 hb0 h k
  replace A0 := Lib.hid A0
  replace A1 := Lib.hid A1
  replace Z := Lib.hid Z
  go_enter Tryz.func21, Tryz.ntmps21
  go_upto_region 1 with (fail)
  rw [← eV.out]
  go_wp2_with fail
  refine (R0.out _).mono ?_
  rintro e w1 ⟨rfl, hb⟩
  replace A0 := Lib.hid (A0.out.bel hb)
  replace A1 := Lib.hid (A1.out.bel hb)
  replace Z := Lib.hid (Z.out.bel hb)
  replace M := Lib.hid (M.out.trans (hb.mono M.out.size))
  clear hb c00 c01 f00 f01 c10 c11 f10 f11
  have q0 := A0.out
  obtain ⟨c00, f00⟩ := q0.one 0 rfl
  obtain ⟨c01, f01⟩ := q0.one 1 rfl
  have q1 := A1.out
  obtain ⟨c10, f10⟩ := q1.one 0 rfl
  obtain ⟨c11, f11⟩ := q1.one 1 rfl
  clear q0 q1
  go_wp2_with fail
  refine (R1.out _).mono ?_
  rintro e w2 ⟨rfl, hb⟩
  replace A0 := Lib.hid (A0.out.bel hb)
  replace A1 := Lib.hid (A1.out.bel hb)
  replace Z := Lib.hid (Z.out.bel hb)
  replace M := Lib.hid (M.out.trans (hb.mono M.out.size))
  clear hb c00 c01 f00 f01 c10 c11 f10 f11
  have q0 := A0.out
  obtain ⟨c00, f00⟩ := q0.one 0 rfl
  obtain ⟨c01, f01⟩ := q0.one 1 rfl
  have q1 := A1.out
  obtain ⟨c10, f10⟩ := q1.one 0 rfl
  obtain ⟨c11, f11⟩ := q1.one 1 rfl
  clear q0 q1
  have qz := Z.out
  obtain ⟨d0, g0⟩ := qz.one 0 rfl
  obtain ⟨d1, g1⟩ := qz.one 1 rfl
  clear qz
  have h9 := (Z.out.set 0 (.int .i64 0) (by simp)).set 1 (.int .i64 0) (by simp)
  have m9 := Lib.hid ((M.out.setCell (p := ⟨w.heap.size + 2, 0, none⟩) (by show w.heap.size ≤ w.heap.size + 2; omega) (.int .i64 0)).setCell (p := ⟨w.heap.size + 2, 1, none⟩) (by show w.heap.size ≤ w.heap.size + 2; omega) (.int .i64 0))
  go_wp2
  have h8 := h9
  obtain ⟨p0, r0⟩ := h8.one 0 rfl
  obtain ⟨p1, r1⟩ := h8.one 1 rfl
  exact bodyPost_ret (v := .tuple #[.agg #[.int .i64 0, .int .i64 0], .bool false]) (by simp [results, Tryz.results21, go_sem, p0, p1]) rfl ⟨rfl, m9.out⟩
theorem ma_yes (Q P : Nat → Int) (g0 : Dbl (Q 0)) (g1 : Dbl (Q 1)) (g2 : Dbl (P 0)) (g3 : Dbl (P 1)) (hk : Q 0 ≤ Q 1 ∧ P 0 ≤ P 1 ∧ 0 ≤ Q 0 ∧ 1 ≤ P 0) (w : World) : Calls Tryz.prog 21 #[.agg #[.int .i64 (Q 0), .int .i64 (Q 1)], .agg #[.int .i64 (P 0), .int .i64 (P 1)]] w fun e w' => e = .returned (.tuple #[.agg #[.int .i64 (maV (Q 0) (P 1)), .int .i64 (maV (Q 1) (P 0))], .bool true]) ∧ Below w.heap.size w w' := by
  refine (hmachs (Q 0) (Q 1) (P 0) (P 1) g0 g1 g2 g3 hk.1 hk.2.1 w).mono ?_
  rintro e w' ⟨rfl, b⟩
  rw [if_neg (by omega)]
  exact ⟨rfl, b⟩
theorem ma_no (Q P : Nat → Int) (g0 : Dbl (Q 0)) (g1 : Dbl (Q 1)) (g2 : Dbl (P 0)) (g3 : Dbl (P 1)) (hk : ¬ (Q 0 ≤ Q 1 ∧ P 0 ≤ P 1 ∧ 0 ≤ Q 0 ∧ 1 ≤ P 0)) (w : World) : Calls Tryz.prog 21 #[.agg #[.int .i64 (Q 0), .int .i64 (Q 1)], .agg #[.int .i64 (P 0), .int .i64 (P 1)]] w fun e w' => e = .returned (.tuple #[.agg #[.int .i64 0, .int .i64 0], .bool false]) ∧ Below w.heap.size w w' := by
  by_cases h : Q 0 ≤ Q 1
  · by_cases k : P 0 ≤ P 1
    · refine (hmachs (Q 0) (Q 1) (P 0) (P 1) g0 g1 g2 g3 h k w).mono ?_
      rintro e w' ⟨rfl, b⟩
      rw [if_pos (by omega)]
      exact ⟨rfl, b⟩
    · exact hmachs_no2 _ _ _ _ h k w
  · exact hmachs_no1 _ _ _ _ h w
end Go.Proofs.YtecpmffmmiogfaaGreat
