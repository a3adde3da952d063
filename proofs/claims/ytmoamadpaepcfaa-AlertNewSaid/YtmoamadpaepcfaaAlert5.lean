/- The law AlertNew, walked. -/
import Derived.Test.YtmoamadpaepcfaaAlert4
namespace Go.Proofs.Ytmoamadpaepcfaa
open Go.ChangeShapes Go.WideShapes Go.ChangeAt Go.RowKit
set_option linter.unusedVariables false

set_option maxHeartbeats 400000 in
theorem aselect_nil (x : Int) (w : World) : Calls Try.prog 40 #[.pointer none, .int .i64 x] w fun e w' => e = .returned (.tuple #[]) ∧ w = w' := by
  go_enter Try.func40, Try.ntmps40
  go_wp2
  go_end0
  exact ⟨rfl, rfl⟩
set_option maxHeartbeats 400000 in
theorem aclear_nil (w : World) : Calls Try.prog 41 #[.pointer none] w fun e w' => e = .returned (.tuple #[]) ∧ w = w' := by
  go_enter Try.func41, Try.ntmps41
  go_wp2
  go_end0
  exact ⟨rfl, rfl⟩
set_option maxHeartbeats 400000 in
theorem astep_nil (x : Int) (w : World) : Calls Try.prog 42 #[.pointer none, .int .i64 x] w fun e w' => e = .returned (.tuple #[.int .i64 0, .bool false]) ∧ w = w' := by
  go_enter Try.func42, Try.ntmps42
  go_wp2
  go_ret2
  exact ⟨rfl, rfl⟩
set_option maxHeartbeats 400000 in
theorem astate_nil (w : World) : Calls Try.prog 43 #[.pointer none] w fun e w' => e = .returned (.int .i64 0) ∧ w = w' := by
  go_enter Try.func43, Try.ntmps43
  go_wp2
  go_ret
  exact ⟨rfl, rfl⟩
set_option maxHeartbeats 400000 in
theorem achimes_nil (w : World) : Calls Try.prog 44 #[.pointer none] w fun e w' => e = .returned (.int .i64 0) ∧ w = w' := by
  go_enter Try.func44, Try.ntmps44
  go_wp2
  go_ret
  exact ⟨rfl, rfl⟩

set_option maxRecDepth 100000 in
set_option maxHeartbeats 1000000 in
theorem law_AlertNew (h wn nr x : Int) (w : World) :
    Calls Try.prog 12 #[.agg #[.int .i64 h, .int .i64 wn, .int .i64 nr], .int .i64 x] w fun e w' => e = .returned (.bool true) ∧ Below w.heap.size w w' := by
  have hq0 := Held.new w [.int .i64 h, .int .i64 wn, .int .i64 nr] 57
  have hb0 : Below w.heap.size w (w.alloc (.cells #[.int .i64 h, .int .i64 wn, .int .i64 nr] 57)) := (Below.refl _ _).alloc (Nat.le_refl _) _
  have RR := Lib.hid (fun v => raright_any h wn nr v)
  cases hr : alR h wn nr
  · rw [hr] at RR
    go_enter Try.func12, Try.ntmps12
    go_wp2_with fail
    refine (anew_no h wn nr _ hr).mono ?_
    rintro e w1 ⟨rfl, hb1⟩
    have hq1 := hq0.bel hb1
    have hb1 := hb0.trans (hb1.mono hb0.size)
    obtain ⟨q0, f0⟩ := hq1.one 0 rfl
    obtain ⟨q1, f1⟩ := hq1.one 1 rfl
    obtain ⟨q2, f2⟩ := hq1.one 2 rfl
    go_wp2_with (first | (go_at_call 40; refine (aselect_nil _ _).mono ?_; rintro e w1 ⟨rfl, rfl⟩) | (go_at_call 41; refine (aclear_nil _).mono ?_; rintro e w1 ⟨rfl, rfl⟩) | (go_at_call 42; refine (astep_nil _ _).mono ?_; rintro e w1 ⟨rfl, rfl⟩) | (go_at_call 43; refine (astate_nil _).mono ?_; rintro e w1 ⟨rfl, rfl⟩) | (go_at_call 44; refine (achimes_nil _).mono ?_; rintro e w1 ⟨rfl, rfl⟩))
    refine (RR.out _).mono ?_
    rintro e w2 ⟨rfl, hb2⟩
    have hb2 := hb1.trans (hb2.mono hb1.size)
    go_wp2_with (go_at_call 37; refine (lives42 _).mono ?_; rintro e w1 ⟨rfl, hb3⟩)
    go_ret
    exact ⟨rfl, hb2.trans (hb3.mono hb2.size)⟩
  · rw [hr] at RR
    go_enter Try.func12, Try.ntmps12
    go_wp2_with fail
    refine (anew_ok h wn nr _ hr).mono ?_
    rintro e w1 ⟨b, hb, rfl, k1, hb1⟩
    have hq1 := hq0.bel hb1
    have hb1 := hb0.trans (hb1.mono hb0.size)
    obtain ⟨q0, f0⟩ := hq1.one 0 rfl
    obtain ⟨q1, f1⟩ := hq1.one 1 rfl
    obtain ⟨q2, f2⟩ := hq1.one 2 rfl
    go_wp2_with (first | (go_at_call 40; refine (aselect_nil _ _).mono ?_; rintro e w1 ⟨rfl, rfl⟩) | (go_at_call 41; refine (aclear_nil _).mono ?_; rintro e w1 ⟨rfl, rfl⟩) | (go_at_call 42; (with_reducible refine (astep_nil _ _).mono ?_); rintro e w1 ⟨rfl, rfl⟩) | (go_at_call 43; (with_reducible refine (astate_nil _).mono ?_); rintro e w1 ⟨rfl, rfl⟩) | (go_at_call 44; (with_reducible refine (achimes_nil _).mono ?_); rintro e w1 ⟨rfl, rfl⟩))
    refine (RR.out _).mono ?_
    rintro e w2 ⟨rfl, hb2⟩
    have k2 := k1.bel hb2
    have hb2 := hb1.trans (hb2.mono hb1.size)
    clear q0 q1 q2 f0 f1 f2
    go_wp2_with fail
    refine (astep_none b x _ k2).mono ?_
    rintro e w3 ⟨rfl, hb3⟩
    have k3 := k2.bel hb3
    have hb3 := hb2.trans (hb3.mono hb2.size)
    go_wp2_with (first | (go_at_call 43; refine (astate_any b _ k3).mono ?_; rintro e w1 ⟨rfl, rfl⟩) | (go_at_call 44; refine (achimes_any b _ k3).mono ?_; rintro e w1 ⟨rfl, rfl⟩) | (go_at_call 37; refine (lives42 _).mono ?_; rintro e w1 ⟨rfl, hb4⟩))
    go_ret
    exact ⟨rfl, hb3.trans (hb4.mono hb3.size)⟩
end Go.Proofs.Ytmoamadpaepcfaa
