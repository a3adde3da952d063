/- Mach numbers of spans; walked. -/
import Derived.Test.YtecpmffmmiogfaaHullM1
namespace Go.Proofs.Ytecpmffmmiogfaa
open Go.ChangeShapes Go.WideShapes Go.ChangeAt Go.RowKit
set_option linter.unusedVariables false
set_option linter.unusedSimpArgs false
set_option maxRecDepth 100000 in
set_option maxHeartbeats 8000000 in
theorem hmachs (a b c d : Int) (ga : Dbl a) (gb : Dbl b) (gc : Dbl c) (gd : Dbl d) (h : a ≤ b) (k : c ≤ d) (w : World) : Calls Try.prog 21 #[.agg #[.int .i64 a, .int .i64 b], .agg #[.int .i64 c, .int .i64 d]] w fun e w' => e = .returned (if a < 0 ∨ c < 1 then .tuple #[.agg #[.int .i64 0, .int .i64 0], .bool false] else .tuple #[.agg #[.int .i64 (maV a d), .int .i64 (maV b c)], .bool true]) ∧ Below w.heap.size w w' := by
  have R0 := fun u => hright_any a b u
  rw [decide_eq_true h] at R0
  replace R0 := Lib.hid R0
  have R1 := fun u => hright_any c d u
  rw [decide_eq_true k] at R1
  replace R1 := Lib.hid R1
  have C0 := Lib.hid (fun u => mat_any a d u ga.1 ga.2 gd.1 gd.2)
  have C1 := Lib.hid (fun u => mat_any b c u gb.1 gb.2 gc.1 gc.2)
  clear ga gb gc gd h k
  obtain ⟨V, eV, hb0, hz, A0, A1, Z⟩ := hm_box3 w a b c d
  replace eV := Lib.hid eV
  replace hz := Lib.hid hz
  have M := Lib.hid hb0
  have q0 := A0
  obtain ⟨c00, f00⟩ := q0.one 0 rfl
  obtain ⟨c01, f01⟩ := q0.one 1 rfl
  have q1 := A1
  obtain ⟨c10, f10⟩ := q1.one 0 rfl
  obtain ⟨c11, f11⟩ := q1.one 1 rfl
  clear q0 q1 hb0
  replace A0 := Lib.hid A0
  replace A1 := Lib.hid A1
  replace Z := Lib.hid Z
  by_cases hg : a < 0 ∨ c < 1
  · rw [if_pos hg]
    rcases (show a < 0 ∨ (0 ≤ a ∧ c < 1) by omega) with g | ⟨g0, g⟩
    · clear hg
      go_enter Try.func21, Try.ntmps21
      go_upto_region 1 with (fail)
      rw [← eV.out]
      go_wp2_with fail
      refine (R0.out _).mono ?_
      rintro e w1 ⟨rfl, hb⟩
      replace A0 := Lib.hid (A0.out.bel hb)
      replace A1 := Lib.hid (A1.out.bel hb)
      replace Z := Lib.hid (Z.out.bel hb)
      replace M := Lib.hid (M.out.trans (hb.mono M.out.size))
      clear hb c00 c01 f00 f01 c10 c11 f10 f11
      have q0 := A0.out
      obtain ⟨c00, f00⟩ := q0.one 0 rfl
      obtain ⟨c01, f01⟩ := q0.one 1 rfl
      have q1 := A1.out
      obtain ⟨c10, f10⟩ := q1.one 0 rfl
      obtain ⟨c11, f11⟩ := q1.one 1 rfl
      clear q0 q1
      go_wp2_with fail
      refine (R1.out _).mono ?_
      rintro e w2 ⟨rfl, hb⟩
      replace A0 := Lib.hid (A0.out.bel hb)
      replace A1 := Lib.hid (A1.out.bel hb)
      replace Z := Lib.hid (Z.out.bel hb)
      replace M := Lib.hid (M.out.trans (hb.mono M.out.size))
      clear hb c00 c01 f00 f01 c10 c11 f10 f11
      have q0 := A0.out
      obtain ⟨c00, f00⟩ := q0.one 0 rfl
      obtain ⟨c01, f01⟩ := q0.one 1 rfl
      have q1 := A1.out
      obtain ⟨c10, f10⟩ := q1.one 0 rfl
      obtain ⟨c11, f11⟩ := q1.one 1 rfl
      clear q0 q1
      have qz := Z.out
      obtain ⟨d0, g0⟩ := qz.one 0 rfl
      obtain ⟨d1, g1⟩ := qz.one 1 rfl
      clear qz
      have h9 := (Z.out.set 0 (.int .i64 0) (by simp)).set 1 (.int .i64 0) (by simp)
      have m9 := Lib.hid ((M.out.setCell (p := ⟨w.heap.size + 2, 0, none⟩) (by show w.heap.size ≤ w.heap.size + 2; omega) (.int .i64 0)).setCell (p := ⟨w.heap.size + 2, 1, none⟩) (by show w.heap.size ≤ w.heap.size + 2; omega) (.int .i64 0))
      go_wp2
      have h8 := h9
      obtain ⟨p0, r0⟩ := h8.one 0 rfl
      obtain ⟨p1, r1⟩ := h8.one 1 rfl
      exact bodyPost_ret (v := .tuple #[.agg #[.int .i64 0, .int .i64 0], .bool false]) (by simp [results, Try.results21, go_sem, p0, p1]) rfl ⟨rfl, m9.out⟩
    · clear hg
      go_enter Try.func21, Try.ntmps21
      go_upto_region 1 with (fail)
      rw [← eV.out]
      go_wp2_with fail
      refine (R0.out _).mono ?_
      rintro e w1 ⟨rfl, hb⟩
      replace A0 := Lib.hid (A0.out.bel hb)
      replace A1 := Lib.hid (A1.out.bel hb)
      replace Z := Lib.hid (Z.out.bel hb)
      replace M := Lib.hid (M.out.trans (hb.mono M.out.size))
      clear hb c00 c01 f00 f01 c10 c11 f10 f11
      have q0 := A0.out
      obtain ⟨c00, f00⟩ := q0.one 0 rfl
      obtain ⟨c01, f01⟩ := q0.one 1 rfl
      have q1 := A1.out
      obtain ⟨c10, f10⟩ := q1.one 0 rfl
      obtain ⟨c11, f11⟩ := q1.one 1 rfl
      clear q0 q1
      go_wp2_with fail
      refine (R1.out _).mono ?_
      rintro e w2 ⟨rfl, hb⟩
      replace A0 := Lib.hid (A0.out.bel hb)
      replace A1 := Lib.hid (A1.out.bel hb)
      replace Z := Lib.hid (Z.out.bel hb)
      replace M := Lib.hid (M.out.trans (hb.mono M.out.size))
      clear hb c00 c01 f00 f01 c10 c11 f10 f11
      have q0 := A0.out
      obtain ⟨c00, f00⟩ := q0.one 0 rfl
      obtain ⟨c01, f01⟩ := q0.one 1 rfl
      have q1 := A1.out
      obtain ⟨c10, f10⟩ := q1.one 0 rfl
      obtain ⟨c11, f11⟩ := q1.one 1 rfl
      clear q0 q1
      have qz := Z.out
      obtain ⟨d0, g0⟩ := qz.one 0 rfl
      obtain ⟨d1, g1⟩ := qz.one 1 rfl
      clear qz
      have h9 := (Z.out.set 0 (.int .i64 0) (by simp)).set 1 (.int .i64 0) (by simp)
      have m9 := Lib.hid ((M.out.setCell (p := ⟨w.heap.size + 2, 0, none⟩) (by show w.heap.size ≤ w.heap.size + 2; omega) (.int .i64 0)).setCell (p := ⟨w.heap.size + 2, 1, none⟩) (by show w.heap.size ≤ w.heap.size + 2; omega) (.int .i64 0))
      go_wp2
      have h8 := h9
      obtain ⟨p0, r0⟩ := h8.one 0 rfl
      obtain ⟨p1, r1⟩ := h8.one 1 rfl
      exact bodyPost_ret (v := .tuple #[.agg #[.int .i64 0, .int .i64 0], .bool false]) (by simp [results, Try.results21, go_sem, p0, p1]) rfl ⟨rfl, m9.out⟩
  · rw [if_neg hg]
    have g0 : ¬ a < 0 := by omega
    have g1 : ¬ c < 1 := by omega
    clear hg
    obtain ⟨y0, eR0⟩ : ∃ y, maV a d = y := ⟨_, rfl⟩
    obtain ⟨y1, eR1⟩ : ∃ y, maV b c = y := ⟨_, rfl⟩
    rw [eR0] at C0
    rw [eR1] at C1
    replace eR0 := Lib.hid eR0
    replace eR1 := Lib.hid eR1
    go_enter Try.func21, Try.ntmps21
    go_upto_region 1 with (fail)
    rw [← eV.out]
    go_wp2_with fail
    refine (R0.out _).mono ?_
    rintro e w1 ⟨rfl, hb⟩
    replace A0 := Lib.hid (A0.out.bel hb)
    replace A1 := Lib.hid (A1.out.bel hb)
    replace Z := Lib.hid (Z.out.bel hb)
    replace M := Lib.hid (M.out.trans (hb.mono M.out.size))
    clear hb c00 c01 f00 f01 c10 c11 f10 f11
    have q0 := A0.out
    obtain ⟨c00, f00⟩ := q0.one 0 rfl
    obtain ⟨c01, f01⟩ := q0.one 1 rfl
    have q1 := A1.out
    obtain ⟨c10, f10⟩ := q1.one 0 rfl
    obtain ⟨c11, f11⟩ := q1.one 1 rfl
    clear q0 q1
    go_wp2_with fail
    refine (R1.out _).mono ?_
    rintro e w2 ⟨rfl, hb⟩
    replace A0 := Lib.hid (A0.out.bel hb)
    replace A1 := Lib.hid (A1.out.bel hb)
    replace Z := Lib.hid (Z.out.bel hb)
    replace M := Lib.hid (M.out.trans (hb.mono M.out.size))
    clear hb c00 c01 f00 f01 c10 c11 f10 f11
    have q0 := A0.out
    obtain ⟨c00, f00⟩ := q0.one 0 rfl
    obtain ⟨c01, f01⟩ := q0.one 1 rfl
    have q1 := A1.out
    obtain ⟨c10, f10⟩ := q1.one 0 rfl
    obtain ⟨c11, f11⟩ := q1.one 1 rfl
    clear q0 q1
    go_wp2_with fail
    refine (C0.out _).mono ?_
    rintro e w3 ⟨rfl, hb⟩
    replace A0 := Lib.hid (A0.out.bel hb)
    replace A1 := Lib.hid (A1.out.bel hb)
    replace Z := Lib.hid (Z.out.bel hb)
    replace M := Lib.hid (M.out.trans (hb.mono M.out.size))
    clear hb c00 c01 f00 f01 c10 c11 f10 f11
    have q0 := A0.out
    obtain ⟨c00, f00⟩ := q0.one 0 rfl
    obtain ⟨c01, f01⟩ := q0.one 1 rfl
    have q1 := A1.out
    obtain ⟨c10, f10⟩ := q1.one 0 rfl
    obtain ⟨c11, f11⟩ := q1.one 1 rfl
    clear q0 q1
    go_wp2_with fail
    refine (C1.out _).mono ?_
    rintro e w4 ⟨rfl, hb⟩
    replace A0 := Lib.hid (A0.out.bel hb)
    replace A1 := Lib.hid (A1.out.bel hb)
    replace Z := Lib.hid (Z.out.bel hb)
    replace M := Lib.hid (M.out.trans (hb.mono M.out.size))
    clear hb c00 c01 f00 f01 c10 c11 f10 f11
    have q0 := A0.out
    obtain ⟨c00, f00⟩ := q0.one 0 rfl
    obtain ⟨c01, f01⟩ := q0.one 1 rfl
    have q1 := A1.out
    obtain ⟨c10, f10⟩ := q1.one 0 rfl
    obtain ⟨c11, f11⟩ := q1.one 1 rfl
    clear q0 q1
    have qz := Z.out
    obtain ⟨d0, g0⟩ := qz.one 0 rfl
    obtain ⟨d1, g1⟩ := qz.one 1 rfl
    clear qz
    have h9 := (Z.out.set 0 (.int .i64 y0) (by simp)).set 1 (.int .i64 y1) (by simp)
    have m9 := Lib.hid ((M.out.setCell (p := ⟨w.heap.size + 2, 0, none⟩) (by show w.heap.size ≤ w.heap.size + 2; omega) (.int .i64 y0)).setCell (p := ⟨w.heap.size + 2, 1, none⟩) (by show w.heap.size ≤ w.heap.size + 2; omega) (.int .i64 y1))
    go_wp2
    have h8 := h9
    obtain ⟨p0, r0⟩ := h8.one 0 rfl
    obtain ⟨p1, r1⟩ := h8.one 1 rfl
    exact bodyPost_ret (v := .tuple #[.agg #[.int .i64 y0, .int .i64 y1], .bool true]) (by simp [results, Try.results21, go_sem, p0, p1]) rfl ⟨by rw [eR0.out, eR1.out], m9.out⟩
end Go.Proofs.Ytecpmffmmiogfaa
