/- Contracts of package signs. -/
import Derived.Test.YtffhhdjcodapjaaClip
import Derived.Test.YtffhhdjcodapjaaBeside
namespace Go.Proofs.Ytffhhdjcodapjaa
open Go.ChangeShapes Go.WideShapes Go.ChangeAt Go.RowKit
set_option linter.unusedVariables false

/-- A watch that may be. -/
def btw (n l h : Int) : Bool := decide (l ≤ n) && decide (n ≤ h)
def sgR (ep mv tk fl hi : Int) : Bool := btw ep 0 1073741824 && btw mv 0 1073741824 && btw tk 1 10000 && btw fl (-549755813887) 549755813887 && btw hi (-549755813887) 549755813887
structure SgOk (ep mv tk fl hi : Int) : Prop where
  ep1 : 0 ≤ ep
  ep2 : ep ≤ 1073741824
  mv1 : 0 ≤ mv
  mv2 : mv ≤ 1073741824
  tk1 : 1 ≤ tk
  tk2 : tk ≤ 10000
  fl1 : -549755813887 ≤ fl
  fl2 : fl ≤ 549755813887
  hi1 : -549755813887 ≤ hi
  hi2 : hi ≤ 549755813887
theorem sgR_ok {ep mv tk fl hi : Int} (h : sgR ep mv tk fl hi = true) : SgOk ep mv tk fl hi := by
  unfold sgR btw at h
  simp at h
  obtain ⟨⟨⟨⟨⟨a, b⟩, c, d⟩, e, f⟩, g, i⟩, j, k⟩ := h
  exact ⟨a, b, c, d, e, f, g, i, j, k⟩
/-- The cells of Signs. -/
def sgC (ep mv tk fl hi : Int) (an : Bool) (v r st lo : Int) : List Value := [.int .i64 ep, .int .i64 mv, .int .i64 tk, .int .i64 fl, .int .i64 hi, .bool an, .int .i64 v, .int .i64 r, .int .i64 st, .int .i64 lo]
/-- How far two are apart. -/
def far (a b : Int) : Int := if a - b < b - a then b - a else a - b
/-- The value still holds its anchor. -/
def sgK (ep : Int) (an : Bool) (v x : Int) : Bool := an && decide (far x v ≤ ep)
def sgV (ep : Int) (an : Bool) (v x : Int) : Int := if sgK ep an v x then v else x
def sgA (ep : Int) (an : Bool) (v x r y : Int) : Int := if sgK ep an v x then r else y
def sgS (ep : Int) (an : Bool) (v x st : Int) : Int := if sgK ep an v x then st + 1 else 0
def sgL (fl hi x y lo : Int) : Int := if decide (x < fl) && decide (hi ≤ y) then lo + 1 else 0
def sgF (mv tk st y r : Int) : Bool := decide (tk ≤ st) && decide (mv < far y r)
def sgOut (mv tk st y r lo : Int) : Int := (if sgF mv tk st y r then 1 else 0) + (if tk ≤ lo then 2 else 0)

set_option maxHeartbeats 400000 in
theorem sapart_any (a b : Int) (w : World) (a1 : -549755813887 ≤ a) (a2 : a ≤ 549755813887) (b1 : -549755813887 ≤ b) (b2 : b ≤ 549755813887) :
    Calls Try.prog 44 #[.int .i64 a, .int .i64 b] w fun e w' => e = .returned (.int .i64 (far a b)) ∧ w = w' := by
  go_enter Try.func44, Try.ntmps44
  go_wp2
  all_goals
    go_ret
    exact ⟨ret_int (by unfold far; omega), rfl⟩

set_option maxHeartbeats 400000 in
theorem sbetw_any (n l h : Int) (w : World) :
    Calls Try.prog 61 #[.int .i64 n, .int .i64 l, .int .i64 h] w fun e w' => e = .returned (.bool (btw n l h)) ∧ w = w' := by
  unfold btw
  go_enter Try.func61, Try.ntmps61
  go_wp2
  all_goals
    go_ret
    exact ⟨ret_bool (by rw [Bool.eq_iff_iff]; simp; try omega), rfl⟩

set_option maxHeartbeats 1000000 in
theorem sright_any (ep mv tk fl hi : Int) (w : World) :
    Calls Try.prog 41 #[.agg #[.int .i64 ep, .int .i64 mv, .int .i64 tk, .int .i64 fl, .int .i64 hi]] w fun e w' => e = .returned (.bool (sgR ep mv tk fl hi)) ∧ Below w.heap.size w w' := by
  unfold sgR
  have B1 := Lib.hid (fun u => sbetw_any ep 0 1073741824 u)
  have B2 := Lib.hid (fun u => sbetw_any mv 0 1073741824 u)
  have B3 := Lib.hid (fun u => sbetw_any tk 1 10000 u)
  have B4 := Lib.hid (fun u => sbetw_any fl (-549755813887) 549755813887 u)
  have B5 := Lib.hid (fun u => sbetw_any hi (-549755813887) 549755813887 u)
  generalize btw ep 0 1073741824 = b1 at B1 ⊢
  generalize btw mv 0 1073741824 = b2 at B2 ⊢
  generalize btw tk 1 10000 = b3 at B3 ⊢
  generalize btw fl (-549755813887) 549755813887 = b4 at B4 ⊢
  generalize btw hi (-549755813887) 549755813887 = b5 at B5 ⊢
  cases b1 <;> cases b2 <;> cases b3 <;> cases b4
  all_goals
    go_enter Try.func41, Try.ntmps41
    go_wp2_with (go_at_call 61; (first | (with_reducible refine (B1.out _).mono ?_) | (with_reducible refine (B2.out _).mono ?_) | (with_reducible refine (B3.out _).mono ?_) | (with_reducible refine (B4.out _).mono ?_) | (with_reducible refine (B5.out _).mono ?_)); rintro e w' ⟨rfl, rfl⟩)
    go_ret
    exact ⟨by simp, (by repeat (first | exact Below.refl _ _ | assumption | apply Below.drew | apply below_drewN | (refine Below.alloc ?_ (by first | exact Nat.le_refl _ | omega | (simp <;> omega)) _) | (refine Below.setCell ?_ (by first | exact Nat.le_refl _ | omega | (simp <;> omega)) _)))⟩

set_option maxHeartbeats 400000 in
theorem sages_any (b : Nat) {ep mv tk fl hi : Int} {an : Bool} {v r st lo : Int} (w : World) (h : Held b (sgC ep mv tk fl hi an v r st lo) w) :
    Calls Try.prog 17 #[.pointer (some ⟨b, 0, none⟩)] w fun e w' => e = .returned (.tuple #[.int .i64 st, .int .i64 lo]) ∧ ∃ k, w' = w.drewN k := by
  obtain ⟨c0, f0⟩ := h.one 0 rfl
  obtain ⟨c1, f1⟩ := h.one 1 rfl
  obtain ⟨c2, f2⟩ := h.one 2 rfl
  obtain ⟨c3, f3⟩ := h.one 3 rfl
  obtain ⟨c4, f4⟩ := h.one 4 rfl
  obtain ⟨c5, f5⟩ := h.one 5 rfl
  obtain ⟨c6, f6⟩ := h.one 6 rfl
  obtain ⟨c7, f7⟩ := h.one 7 rfl
  obtain ⟨c8, f8⟩ := h.one 8 rfl
  obtain ⟨c9, f9⟩ := h.one 9 rfl
  go_enter Try.func17, Try.ntmps17
  go_wp2
  go_quiet (fail)
  go_wp2
  go_ret2
  exact ⟨rfl, _, rfl⟩

set_option maxHeartbeats 400000 in
theorem sages_nil (w : World) :
    Calls Try.prog 17 #[.pointer none] w fun e w' => e = .returned (.tuple #[.int .i64 0, .int .i64 0]) ∧ w = w' := by
  go_enter Try.func17, Try.ntmps17
  go_wp2
  go_ret2
  exact ⟨rfl, rfl⟩

set_option maxHeartbeats 400000 in
theorem sforget_any (b : Nat) {ep mv tk fl hi : Int} {an : Bool} {v r st lo : Int} (w : World) (h : Held b (sgC ep mv tk fl hi an v r st lo) w) :
    Calls Try.prog 14 #[.pointer (some ⟨b, 0, none⟩)] w fun e w' => e = .returned (.tuple #[]) ∧ Held b (sgC ep mv tk fl hi false 0 0 0 0) w' ∧ Only b w w' := by
  obtain ⟨c0, f0⟩ := h.one 0 rfl
  obtain ⟨c1, f1⟩ := h.one 1 rfl
  obtain ⟨c2, f2⟩ := h.one 2 rfl
  obtain ⟨c3, f3⟩ := h.one 3 rfl
  obtain ⟨c4, f4⟩ := h.one 4 rfl
  obtain ⟨c5, f5⟩ := h.one 5 rfl
  obtain ⟨c6, f6⟩ := h.one 6 rfl
  obtain ⟨c7, f7⟩ := h.one 7 rfl
  obtain ⟨c8, f8⟩ := h.one 8 rfl
  obtain ⟨c9, f9⟩ := h.one 9 rfl
  go_enter Try.func14, Try.ntmps14
  go_wp2
  go_end0
  exact ⟨rfl, ((((h.set 5 (.bool false) (by simp [sgC])).set 6 (.int .i64 0) (by simp [sgC])).set 7 (.int .i64 0) (by simp [sgC])).set 8 (.int .i64 0) (by simp [sgC])).set 9 (.int .i64 0) (by simp [sgC]), (((((Only.refl b w).setCell (p := ⟨b, 5, none⟩) _).setCell (p := ⟨b, 6, none⟩) _).setCell (p := ⟨b, 7, none⟩) _).setCell (p := ⟨b, 8, none⟩) _).setCell (p := ⟨b, 9, none⟩) _⟩

set_option maxHeartbeats 400000 in
theorem sforget_nil (w : World) : Calls Try.prog 14 #[.pointer none] w fun e w' => e = .returned (.tuple #[]) ∧ w = w' := by
  go_enter Try.func14, Try.ntmps14
  go_wp2
  go_end0
  exact ⟨rfl, rfl⟩

set_option maxHeartbeats 400000 in
theorem sstep_nil (x y : Int) (w : World) : Calls Try.prog 15 #[.pointer none, .int .i64 x, .int .i64 y] w fun e w' => e = .returned (.int .i64 0) ∧ w = w' := by
  go_enter Try.func15, Try.ntmps15
  go_wp2
  go_ret
  exact ⟨rfl, rfl⟩

set_option maxHeartbeats 1000000 in
theorem sgnew_ok (ep mv tk fl hi : Int) (w : World) (h : sgR ep mv tk fl hi = true) :
    Calls Try.prog 12 #[.agg #[.int .i64 ep, .int .i64 mv, .int .i64 tk, .int .i64 fl, .int .i64 hi]] w (NewObj (sgC ep mv tk fl hi false 0 0 0 0) w) := by
  go_enter Try.func12, Try.ntmps12
  go_wp2_with fail
  refine (sright_any ep mv tk fl hi _).mono ?_
  rintro e w1 ⟨rfl, hb1⟩
  rw [h]
  obtain ⟨hc1, hf1⟩ := bcell hb1
  have hz1 : w.heap.size < w1.heap.size := by have := hb1.size; simp at this; omega
  go_wp2
  go_ret2
  refine ⟨w1.heap.size, by omega, rfl, Held.new w1 (sgC ep mv tk fl hi false 0 0 0 0) _, ?_⟩
  exact (Below.trans ((Below.refl _ _).alloc (Nat.le_refl _) _) (hb1.mono (by simp))).alloc (by omega) _

set_option maxHeartbeats 1000000 in
theorem sgnew_no (ep mv tk fl hi : Int) (w : World) (h : sgR ep mv tk fl hi = false) :
    Calls Try.prog 12 #[.agg #[.int .i64 ep, .int .i64 mv, .int .i64 tk, .int .i64 fl, .int .i64 hi]] w fun e w' => e = .returned (.tuple #[.pointer none, .int .i64 2]) ∧ Below w.heap.size w w' := by
  go_enter Try.func12, Try.ntmps12
  go_wp2_with fail
  refine (sright_any ep mv tk fl hi _).mono ?_
  rintro e w1 ⟨rfl, hb1⟩
  rw [h]
  go_wp2
  go_ret2
  exact ⟨rfl, Below.trans ((Below.refl _ _).alloc (Nat.le_refl _) _) (hb1.mono (by simp))⟩
end Go.Proofs.Ytffhhdjcodapjaa
