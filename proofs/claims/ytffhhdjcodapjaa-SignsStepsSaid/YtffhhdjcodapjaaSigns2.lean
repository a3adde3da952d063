/- signs.age, signs.Step, walked. -/
import Derived.Test.YtffhhdjcodapjaaSigns1
namespace Go.Proofs.Ytffhhdjcodapjaa
open Go.ChangeShapes Go.WideShapes Go.ChangeAt Go.RowKit
set_option linter.unusedVariables false
set_option linter.unusedSimpArgs false

theorem Only.drewN {b : Nat} {a w : World} (h : Only b a w) (n : Nat) : Only b a (w.drewN n) := ⟨h.os, h.tape, h.output, h.size, h.block⟩

set_option maxHeartbeats 1000000 in
theorem sage_any (b : Nat) {ep mv tk fl hi : Int} {an : Bool} {v r st lo : Int} (x y : Int) (w : World) (h : Held b (sgC ep mv tk fl hi an v r st lo) w) (x1 : -549755813887 ≤ x) (x2 : x ≤ 549755813887) (v1 : -549755813887 ≤ v) (v2 : v ≤ 549755813887) (s0 : 0 ≤ st) (s1 : st < 1000000) (l0 : 0 ≤ lo) (l1 : lo < 1000000) :
    Calls Try.prog 43 #[.pointer (some ⟨b, 0, none⟩), .int .i64 x, .int .i64 y] w fun e w' => e = .returned (.tuple #[]) ∧ Held b (sgC ep mv tk fl hi true (sgV ep an v x) (sgA ep an v x r y) (sgS ep an v x st) (sgL fl hi x y lo)) w' ∧ Only b w w' := by
  have SA := Lib.hid (fun u => sapart_any x v u x1 x2 v1 v2)
  have o0 := Only.refl b w
  unfold sgV sgA sgS sgK sgL
  generalize far x v = d at SA ⊢
  clear x1 x2 v1 v2
  obtain ⟨c0, f0⟩ := h.one 0 rfl
  obtain ⟨c1, f1⟩ := h.one 1 rfl
  obtain ⟨c2, f2⟩ := h.one 2 rfl
  obtain ⟨c3, f3⟩ := h.one 3 rfl
  obtain ⟨c4, f4⟩ := h.one 4 rfl
  obtain ⟨c5, f5⟩ := h.one 5 rfl
  obtain ⟨c6, f6⟩ := h.one 6 rfl
  obtain ⟨c7, f7⟩ := h.one 7 rfl
  obtain ⟨c8, f8⟩ := h.one 8 rfl
  obtain ⟨c9, f9⟩ := h.one 9 rfl
  cases an
  · by_cases hx : x < fl <;> by_cases hy : hi ≤ y
    all_goals
      simp [hx, hy]
      go_enter Try.func43, Try.ntmps43
      go_wp2_with fail
      go_quiet ((first | (go_at_call 44; (exact quiet_as _ rfl (SA.out _)))))
      go_wp2
      go_end0
      first | exact ⟨rfl, (((((h.drewN _).set 5 (.bool true) (by simp [sgC])).set 6 (.int .i64 x) (by simp [sgC])).set 7 (.int .i64 y) (by simp [sgC])).set 8 (.int .i64 0) (by simp [sgC])).set 9 (.int .i64 (lo + 1)) (by simp [sgC]), ((((((o0.drewN _).setCell (p := ⟨b, 5, none⟩) _).setCell (p := ⟨b, 6, none⟩) _).setCell (p := ⟨b, 7, none⟩) _).setCell (p := ⟨b, 8, none⟩) _).setCell (p := ⟨b, 9, none⟩) _)⟩ | exact ⟨rfl, (((((h.drewN _).set 5 (.bool true) (by simp [sgC])).set 6 (.int .i64 x) (by simp [sgC])).set 7 (.int .i64 y) (by simp [sgC])).set 8 (.int .i64 0) (by simp [sgC])).set 9 (.int .i64 0) (by simp [sgC]), ((((((o0.drewN _).setCell (p := ⟨b, 5, none⟩) _).setCell (p := ⟨b, 6, none⟩) _).setCell (p := ⟨b, 7, none⟩) _).setCell (p := ⟨b, 8, none⟩) _).setCell (p := ⟨b, 9, none⟩) _)⟩
  · by_cases hd : d ≤ ep
    · have hd' : decide (ep < d) = false := decide_eq_false (by omega)
      by_cases hx : x < fl <;> by_cases hy : hi ≤ y
      all_goals
        simp [hx, hy, hd]
        go_enter Try.func43, Try.ntmps43
        go_wp2_with fail
        go_quiet ((first | (go_at_call 44; (exact quiet_as _ rfl (SA.out _)))))
        go_wp2
        go_end0
        first | exact ⟨rfl, ((h.drewN _).set 8 (.int .i64 (st + 1)) (by simp [sgC])).set 9 (.int .i64 (lo + 1)) (by simp [sgC]), ((o0.drewN _).setCell (p := ⟨b, 8, none⟩) _).setCell (p := ⟨b, 9, none⟩) _⟩ | exact ⟨rfl, ((h.drewN _).set 8 (.int .i64 (st + 1)) (by simp [sgC])).set 9 (.int .i64 0) (by simp [sgC]), ((o0.drewN _).setCell (p := ⟨b, 8, none⟩) _).setCell (p := ⟨b, 9, none⟩) _⟩
    · have hd' : decide (ep < d) = true := decide_eq_true (by omega)
      by_cases hx : x < fl <;> by_cases hy : hi ≤ y
      all_goals
        simp [hx, hy, hd]
        go_enter Try.func43, Try.ntmps43
        go_wp2_with fail
        go_quiet ((first | (go_at_call 44; (exact quiet_as _ rfl (SA.out _)))))
        go_wp2
        go_end0
        first | exact ⟨rfl, (((((h.drewN _).set 5 (.bool true) (by simp [sgC])).set 6 (.int .i64 x) (by simp [sgC])).set 7 (.int .i64 y) (by simp [sgC])).set 8 (.int .i64 0) (by simp [sgC])).set 9 (.int .i64 (lo + 1)) (by simp [sgC]), ((((((o0.drewN _).setCell (p := ⟨b, 5, none⟩) _).setCell (p := ⟨b, 6, none⟩) _).setCell (p := ⟨b, 7, none⟩) _).setCell (p := ⟨b, 8, none⟩) _).setCell (p := ⟨b, 9, none⟩) _)⟩ | exact ⟨rfl, (((((h.drewN _).set 5 (.bool true) (by simp [sgC])).set 6 (.int .i64 x) (by simp [sgC])).set 7 (.int .i64 y) (by simp [sgC])).set 8 (.int .i64 0) (by simp [sgC])).set 9 (.int .i64 0) (by simp [sgC]), ((((((o0.drewN _).setCell (p := ⟨b, 5, none⟩) _).setCell (p := ⟨b, 6, none⟩) _).setCell (p := ⟨b, 7, none⟩) _).setCell (p := ⟨b, 8, none⟩) _).setCell (p := ⟨b, 9, none⟩) _)⟩

theorem sgV_bd (ep : Int) (an : Bool) (v x : Int) (x1 : -549755813887 ≤ x) (x2 : x ≤ 549755813887) (v1 : -549755813887 ≤ v) (v2 : v ≤ 549755813887) : -549755813887 ≤ sgV ep an v x ∧ sgV ep an v x ≤ 549755813887 := by
  unfold sgV; split <;> omega
theorem sgA_bd (ep : Int) (an : Bool) (v x r y : Int) (x1 : -549755813887 ≤ y) (x2 : y ≤ 549755813887) (v1 : -549755813887 ≤ r) (v2 : r ≤ 549755813887) : -549755813887 ≤ sgA ep an v x r y ∧ sgA ep an v x r y ≤ 549755813887 := by
  unfold sgA; split <;> omega
theorem sgS_bd (ep : Int) (an : Bool) (v x st : Int) (s0 : 0 ≤ st) : 0 ≤ sgS ep an v x st ∧ sgS ep an v x st ≤ st + 1 := by
  unfold sgS; split <;> omega
theorem sgL_bd (fl hi x y lo : Int) (s0 : 0 ≤ lo) : 0 ≤ sgL fl hi x y lo ∧ sgL fl hi x y lo ≤ lo + 1 := by
  unfold sgL; split <;> omega

set_option maxHeartbeats 1000000 in
theorem sstep_any (b : Nat) {ep mv tk fl hi : Int} {an : Bool} {v r st lo : Int} (v0 y0 : Int) (w : World) (h : Held b (sgC ep mv tk fl hi an v r st lo) w) (v1 : -549755813887 ≤ v) (v2 : v ≤ 549755813887) (r1 : -549755813887 ≤ r) (r2 : r ≤ 549755813887) (s0 : 0 ≤ st) (s1 : st < 1000000) (l0 : 0 ≤ lo) (l1 : lo < 1000000) :
    Calls Try.prog 15 #[.pointer (some ⟨b, 0, none⟩), .int .i64 v0, .int .i64 y0] w fun e w' => e = .returned (.int .i64 (sgOut mv tk (sgS ep an v (clq v0) st) (clq y0) (sgA ep an v (clq v0) r (clq y0)) (sgL fl hi (clq v0) (clq y0) lo))) ∧ Held b (sgC ep mv tk fl hi true (sgV ep an v (clq v0)) (sgA ep an v (clq v0) r (clq y0)) (sgS ep an v (clq v0) st) (sgL fl hi (clq v0) (clq y0) lo)) w' ∧ Only b w w' := by
  have bx := clq_bd v0
  have by0 := clq_bd y0
  have C1 := Lib.hid (fun u => sclip_any v0 u)
  have C2 := Lib.hid (fun u => sclip_any y0 u)
  generalize clq v0 = x at *
  generalize clq y0 = y at *
  have AG := Lib.hid (sage_any b x y w h bx.1 bx.2 v1 v2 s0 s1 l0 l1)
  have ab := sgA_bd ep an v x r y by0.1 by0.2 r1 r2
  generalize sgV ep an v x = v' at *
  generalize sgA ep an v x r y = r' at *
  generalize sgS ep an v x st = s' at *
  generalize sgL fl hi x y lo = l' at *
  have SA := Lib.hid (fun u => sapart_any y r' u by0.1 by0.2 ab.1 ab.2)
  have HO := Lib.hid (show sgOut mv tk s' y r' l' = (if (decide (tk ≤ s') && decide (mv < far y r')) = true then 1 else 0) + (if decide (tk ≤ l') = true then 2 else 0) by unfold sgOut sgF; simp)
  generalize sgOut mv tk s' y r' l' = q at HO ⊢
  generalize far y r' = d at SA HO
  clear v1 v2 r1 r2 s0 s1 l0 l1 bx by0 ab
  cases hs : decide (tk ≤ s') <;> cases hm : decide (mv < d) <;> cases hl : decide (tk ≤ l')
  all_goals
    go_enter Try.func15, Try.ntmps15
    go_wp2_with (go_at_call 42; (first | (with_reducible refine (C1.out _).mono ?_) | (with_reducible refine (C2.out _).mono ?_)); rintro e w' ⟨rfl, rfl⟩)
    refine AG.out.mono ?_
    rintro e w1 ⟨rfl, h1, o1⟩
    obtain ⟨c0, f0⟩ := h1.one 0 rfl
    obtain ⟨c1, f1⟩ := h1.one 1 rfl
    obtain ⟨c2, f2⟩ := h1.one 2 rfl
    obtain ⟨c3, f3⟩ := h1.one 3 rfl
    obtain ⟨c4, f4⟩ := h1.one 4 rfl
    obtain ⟨c5, f5⟩ := h1.one 5 rfl
    obtain ⟨c6, f6⟩ := h1.one 6 rfl
    obtain ⟨c7, f7⟩ := h1.one 7 rfl
    obtain ⟨c8, f8⟩ := h1.one 8 rfl
    obtain ⟨c9, f9⟩ := h1.one 9 rfl
    go_wp2_with fail
    go_quiet ((first | (go_at_call 44; (exact quiet_as _ rfl (SA.out _)))))
    go_wp2_with fail
    go_quiet (fail)
    go_wp2
    go_ret
    exact ⟨ret_int (by have := HO.out; rw [hs, hm, hl] at this; try rw [show bits BinOp.or IntKind.i64 0 1 = 1 by decide]
                       (try rw [show bits BinOp.or IntKind.i64 0 2 = 2 by decide]); (try rw [show bits BinOp.or IntKind.i64 1 2 = 3 by decide]); simpa using this.symm), h1.as rfl, o1.as rfl rfl rfl rfl⟩
end Go.Proofs.Ytffhhdjcodapjaa
