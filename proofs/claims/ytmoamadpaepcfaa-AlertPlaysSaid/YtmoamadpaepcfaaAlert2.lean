/- The alerter, walked: clip, option, New, Select, Clear, State, Chimes, Step. -/
import Derived.Test.YtmoamadpaepcfaaAlert1
import Derived.BigRegion
namespace Go.Proofs.Ytmoamadpaepcfaa
open Go.ChangeShapes Go.WideShapes Go.ChangeAt Go.RowKit
set_option linter.unusedVariables false

def alC (h wn nr sv : Int) (sk : Bool) (st ch : Int) : List Value := [.int .i64 h, .int .i64 wn, .int .i64 nr, .int .i64 sv, .bool sk, .int .i64 st, .int .i64 ch]

set_option maxHeartbeats 400000 in
theorem aclip_any (x : Int) (w : World) : Calls Try.prog 55 #[.int .i64 x] w fun e w' => e = .returned (.int .i64 (cl8 x)) ∧ w = w' := by
  go_enter Try.func55, Try.ntmps55
  go_wp2
  all_goals
    go_ret
    exact ⟨ret_int (by unfold cl8; omega), rfl⟩
set_option maxHeartbeats 400000 in
theorem rclip9_any (x lo hi : Int) (w : World) : Calls Try.prog 57 #[.int .i64 x, .int .i64 lo, .int .i64 hi] w fun e w' => e = .returned (.int .i64 (if x < lo then lo else if hi < x then hi else x)) ∧ w = w' := by
  go_enter Try.func57, Try.ntmps57
  go_wp2
  all_goals
    go_ret
    exact ⟨ret_int (by omega), rfl⟩
set_option maxHeartbeats 400000 in
theorem rclip19_any (x : Int) (w : World) : Calls Try.prog 45 #[.int .i64 x] w fun e w' => e = .returned (.int .i64 (cl8 x)) ∧ w = w' := by
  go_enter Try.func45, Try.ntmps45
  go_wp2_with (go_at_call 57; refine (rclip9_any _ _ _ _).mono ?_; rintro e w1 ⟨rfl, rfl⟩)
  all_goals
    go_ret
    exact ⟨ret_int (by unfold cl8; omega), rfl⟩
set_option maxHeartbeats 400000 in
theorem rabs1_any (a : Int) (w : World) (h : -1099511627775 ≤ a ∧ a ≤ 1099511627775) :
    Calls Try.prog 58 #[.int .i64 a] w fun e w' => e = .returned (.int .i64 (if a < 0 then -a else a)) ∧ w = w' := by
  obtain ⟨h1, h2⟩ := h
  go_enter Try.func58, Try.ntmps58
  go_wp2
  all_goals
    go_ret
    exact ⟨ret_int (by omega), rfl⟩
def dst (x y : Int) : Int := if x - y < 0 then -(x - y) else x - y
set_option maxHeartbeats 400000 in
theorem apart_any (x y : Int) (w : World) (hx : -100000000 ≤ x ∧ x ≤ 100000000) (hy : -100000000 ≤ y ∧ y ≤ 100000000) :
    Calls Try.prog 46 #[.int .i64 x, .int .i64 y] w fun e w' => e = .returned (.int .i64 (dst x y)) ∧ w = w' := by
  go_enter Try.func46, Try.ntmps46
  go_wp2_with (go_at_call 58; refine (rabs1_any _ _ (by omega)).mono ?_; rintro e w1 ⟨rfl, rfl⟩)
  all_goals
    go_ret
    exact ⟨ret_int (by unfold dst; omega), rfl⟩

set_option maxHeartbeats 400000 in
theorem oget_any (v : Int) (k : Bool) (w : World) : Calls Try.prog 56 #[.agg #[.int .i64 v, .bool k]] w fun e w' => e = .returned (.tuple #[.int .i64 v, .bool k]) ∧ Below w.heap.size w w' := by
  go_enter Try.func56, Try.ntmps56
  go_wp2_with fail
  go_quiet (fail)
  go_wp2
  go_ret2
  exact ⟨rfl, (by repeat (first | exact Below.refl _ _ | assumption | apply Below.drew | apply below_drewN | (refine Below.alloc ?_ (by first | exact Nat.le_refl _ | omega | (simp <;> omega)) _) | (refine Below.setCell ?_ (by first | exact Nat.le_refl _ | omega | (simp <;> omega)) _)))⟩
set_option maxHeartbeats 400000 in
theorem oof_any (v : Int) (w : World) : Calls Try.prog 54 #[.int .i64 v] w fun e w' => e = .returned (.agg #[.int .i64 v, .bool true]) ∧ Below w.heap.size w w' := by
  go_enter Try.func54, Try.ntmps54
  go_wp2
  exact bodyPost_ret (v := .agg #[.int .i64 v, .bool true]) (by simp [results, Try.results54, go_sem]) rfl ⟨rfl, (by repeat (first | exact Below.refl _ _ | assumption | apply Below.drew | apply below_drewN | (refine Below.alloc ?_ (by first | exact Nat.le_refl _ | omega | (simp <;> omega)) _) | (refine Below.setCell ?_ (by first | exact Nat.le_refl _ | omega | (simp <;> omega)) _)))⟩

set_option maxHeartbeats 400000 in
theorem astate_any (b : Nat) {h wn nr sv : Int} {sk : Bool} {st ch : Int} (w : World) (k : Held b (alC h wn nr sv sk st ch) w) : Calls Try.prog 43 #[.pointer (some ⟨b, 0, none⟩)] w fun e w' => e = .returned (.int .i64 st) ∧ w = w' := by
  obtain ⟨c0, f0⟩ := k.one 0 rfl
  obtain ⟨c1, f1⟩ := k.one 1 rfl
  obtain ⟨c2, f2⟩ := k.one 2 rfl
  obtain ⟨c3, f3⟩ := k.one 3 rfl
  obtain ⟨c4, f4⟩ := k.one 4 rfl
  obtain ⟨c5, f5⟩ := k.one 5 rfl
  obtain ⟨c6, f6⟩ := k.one 6 rfl
  go_enter Try.func43, Try.ntmps43
  go_wp2
  go_ret
  exact ⟨rfl, rfl⟩
set_option maxHeartbeats 400000 in
theorem achimes_any (b : Nat) {h wn nr sv : Int} {sk : Bool} {st ch : Int} (w : World) (k : Held b (alC h wn nr sv sk st ch) w) : Calls Try.prog 44 #[.pointer (some ⟨b, 0, none⟩)] w fun e w' => e = .returned (.int .i64 ch) ∧ w = w' := by
  obtain ⟨c0, f0⟩ := k.one 0 rfl
  obtain ⟨c1, f1⟩ := k.one 1 rfl
  obtain ⟨c2, f2⟩ := k.one 2 rfl
  obtain ⟨c3, f3⟩ := k.one 3 rfl
  obtain ⟨c4, f4⟩ := k.one 4 rfl
  obtain ⟨c5, f5⟩ := k.one 5 rfl
  obtain ⟨c6, f6⟩ := k.one 6 rfl
  go_enter Try.func44, Try.ntmps44
  go_wp2_with (go_at_call 49; refine (aload64 _ _ _ _ c6).mono ?_; rintro e w1 ⟨rfl, rfl⟩)
  go_ret
  exact ⟨rfl, rfl⟩

set_option maxHeartbeats 1000000 in
theorem anew_ok (h wn nr : Int) (w : World) (hr : alR h wn nr = true) : Calls Try.prog 39 #[.agg #[.int .i64 h, .int .i64 wn, .int .i64 nr]] w (NewObj (alC h wn nr 0 false 0 0) w) := by
  go_enter Try.func39, Try.ntmps39
  go_wp2_with fail
  refine (aright_any h wn nr _).mono ?_
  rintro e w1 ⟨rfl, hb1⟩
  rw [hr]
  obtain ⟨hc1, hf1⟩ := bcell hb1
  have hz1 : w.heap.size < w1.heap.size := by have := hb1.size; simp at this; omega
  go_wp2
  go_ret2
  refine ⟨w1.heap.size, by omega, rfl, Held.new w1 (alC h wn nr 0 false 0 0) _, ?_⟩
  exact (Below.trans ((Below.refl _ _).alloc (Nat.le_refl _) _) (hb1.mono (by simp))).alloc (by omega) _
set_option maxHeartbeats 1000000 in
theorem anew_no (h wn nr : Int) (w : World) (hr : alR h wn nr = false) : Calls Try.prog 39 #[.agg #[.int .i64 h, .int .i64 wn, .int .i64 nr]] w fun e w' => e = .returned (.tuple #[.pointer none, .int .i64 2]) ∧ Below w.heap.size w w' := by
  go_enter Try.func39, Try.ntmps39
  go_wp2_with fail
  refine (aright_any h wn nr _).mono ?_
  rintro e w1 ⟨rfl, hb1⟩
  rw [hr]
  go_wp2
  go_ret2
  exact ⟨rfl, Below.trans ((Below.refl _ _).alloc (Nat.le_refl _) _) (hb1.mono (by simp))⟩

set_option maxHeartbeats 1000000 in
theorem aselect_any (b : Nat) {h wn nr sv : Int} {sk : Bool} {st ch : Int} (x : Int) (w : World) (k : Held b (alC h wn nr sv sk st ch) w) :
    Calls Try.prog 40 #[.pointer (some ⟨b, 0, none⟩), .int .i64 x] w fun e w' => e = .returned (.tuple #[]) ∧ Held b (alC h wn nr (cl8 x) true 0 ch) w' ∧ Beside b w w' := by
  go_enter Try.func40, Try.ntmps40
  go_wp2_with (go_at_call 55; refine (aclip_any _ _).mono ?_; rintro e w1 ⟨rfl, rfl⟩)
  refine (oof_any _ _).mono ?_
  rintro e w1 ⟨rfl, hb1⟩
  have k1 := k.bel hb1
  obtain ⟨c0, f0⟩ := k1.one 0 rfl
  obtain ⟨c1, f1⟩ := k1.one 1 rfl
  obtain ⟨c2, f2⟩ := k1.one 2 rfl
  obtain ⟨c3, f3⟩ := k1.one 3 rfl
  obtain ⟨c4, f4⟩ := k1.one 4 rfl
  obtain ⟨c5, f5⟩ := k1.one 5 rfl
  obtain ⟨c6, f6⟩ := k1.one 6 rfl
  go_wp2
  go_end0
  exact ⟨rfl, (((k1.set 3 (.int .i64 (cl8 x)) (by simp [alC])).set 4 (.bool true) (by simp [alC])).set 5 (.int .i64 0) (by simp [alC])).as rfl, ((((Beside.of_below hb1).setCell (p := ⟨b, 3, none⟩) (.int .i64 (cl8 x))).setCell (p := ⟨b, 4, none⟩) (.bool true)).setCell (p := ⟨b, 5, none⟩) (.int .i64 0)).as rfl rfl rfl rfl⟩
set_option maxHeartbeats 1000000 in
theorem aclear_any (b : Nat) {h wn nr sv : Int} {sk : Bool} {st ch : Int} (w : World) (k : Held b (alC h wn nr sv sk st ch) w) :
    Calls Try.prog 41 #[.pointer (some ⟨b, 0, none⟩)] w fun e w' => e = .returned (.tuple #[]) ∧ Held b (alC h wn nr 0 false 0 ch) w' ∧ Only b w w' := by
  obtain ⟨c0, f0⟩ := k.one 0 rfl
  obtain ⟨c1, f1⟩ := k.one 1 rfl
  obtain ⟨c2, f2⟩ := k.one 2 rfl
  obtain ⟨c3, f3⟩ := k.one 3 rfl
  obtain ⟨c4, f4⟩ := k.one 4 rfl
  obtain ⟨c5, f5⟩ := k.one 5 rfl
  obtain ⟨c6, f6⟩ := k.one 6 rfl
  go_enter Try.func41, Try.ntmps41
  go_wp2
  go_end0
  exact ⟨rfl, (((k.set 3 (.int .i64 0) (by simp [alC])).set 4 (.bool false) (by simp [alC])).set 5 (.int .i64 0) (by simp [alC])).as rfl, ((((Only.refl b w).setCell (p := ⟨b, 3, none⟩) (.int .i64 0)).setCell (p := ⟨b, 4, none⟩) (.bool false)).setCell (p := ⟨b, 5, none⟩) (.int .i64 0)).as rfl rfl rfl rfl⟩
end Go.Proofs.Ytmoamadpaepcfaa
