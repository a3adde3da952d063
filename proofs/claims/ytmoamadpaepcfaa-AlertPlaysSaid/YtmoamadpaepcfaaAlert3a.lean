/- The alerter's step, walked. -/
import Derived.Test.YtmoamadpaepcfaaAlert3
namespace Go.Proofs.Ytmoamadpaepcfaa
open Go.ChangeShapes Go.WideShapes Go.ChangeAt Go.RowKit
set_option linter.unusedVariables false

set_option maxHeartbeats 8000000 in
theorem astep_neg (b : Nat) {h wn nr sv : Int} {st ch : Int} (x : Int) (w : World) (k : Held b (alC h wn nr sv true st ch) w) (hr : alR h wn nr = true) (hs : -100000000 ≤ sv ∧ sv ≤ 100000000) (c0 : 0 ≤ ch) (c1 : ch < 4611686018427387904) (hneg : cl8 x - sv < -(cl8 x - sv)) :
    Calls Try.prog 42 #[.pointer (some ⟨b, 0, none⟩), .int .i64 x] w fun e w' => e = .returned (.tuple #[.int .i64 (nxt st (dst (cl8 x) sv) h wn nr), .bool (chm st (nxt st (dst (cl8 x) sv) h wn nr))]) ∧
      Held b (alC h wn nr sv true (nxt st (dst (cl8 x) sv) h wn nr) (bump (chm st (nxt st (dst (cl8 x) sv) h wn nr)) ch)) w' ∧ Beside b w w' := by
  obtain ⟨s0, s1⟩ := hs
  have xb := cl8_bd x
  have hd : dst (cl8 x) sv = if cl8 x - sv < -(cl8 x - sv) then -(cl8 x - sv) else cl8 x - sv := by unfold dst; omega
  have NX := Lib.hid (fun v => next_ok st (dst (cl8 x) sv) h wn nr v hr)
  have CL := Lib.hid (fun v => aclip_any x v)
  generalize nxt st (dst (cl8 x) sv) h wn nr = n at *
  generalize chm st n = c at *
  rw [hd] at NX
  clear hd
  generalize cl8 x = X at *
  have e1 : IntKind.i64.wrap (-(X - sv)) = -(X - sv) := IntWalk.i64_in _ ⟨by omega, by omega⟩
  have hb : b < w.heap.size := k.lt
  obtain ⟨q0, f0⟩ := k.one 0 rfl
  obtain ⟨q1, f1⟩ := k.one 1 rfl
  obtain ⟨q2, f2⟩ := k.one 2 rfl
  obtain ⟨q3, f3⟩ := k.one 3 rfl
  obtain ⟨q4, f4⟩ := k.one 4 rfl
  obtain ⟨q5, f5⟩ := k.one 5 rfl
  obtain ⟨q6, f6⟩ := k.one 6 rfl
  have NX2 := NX
  rw [if_pos hneg] at NX2
  cases c
  · go_enter Try.func42, Try.ntmps42
    go_wp2_with fail
    refine (oget_any _ _ _).mono ?_
    rintro e w1 ⟨rfl, hb1⟩
    have k1 := k.bel hb1
    have o1 : Beside b w w1 := .of_below hb1
    clear q0 q1 q2 q3 q4 q5 q6 f0 f1 f2 f3 f4 f5 f6 k hb1
    obtain ⟨q0, f0⟩ := k1.one 0 rfl
    obtain ⟨q1, f1⟩ := k1.one 1 rfl
    obtain ⟨q2, f2⟩ := k1.one 2 rfl
    obtain ⟨q3, f3⟩ := k1.one 3 rfl
    obtain ⟨q4, f4⟩ := k1.one 4 rfl
    obtain ⟨q5, f5⟩ := k1.one 5 rfl
    obtain ⟨q6, f6⟩ := k1.one 6 rfl
    go_wp2_with (go_at_call 55; refine (CL.out _).mono ?_; rintro e w1 ⟨rfl, rfl⟩)
    go_region_with (go_at_call 35; (first | (with_reducible refine (NX.out _).mono ?_) | (with_reducible refine (NX2.out _).mono ?_)); rintro e w2 ⟨rfl, hb2⟩; have k2 := Held.bel (k1.drew) hb2; have o2 : Beside b w w2 := Beside.trans (o1.as (v' := w1.drew) rfl rfl rfl rfl) (.of_below hb2); obtain ⟨p5, g5⟩ := k2.one 5 rfl; obtain ⟨p6, g6⟩ := k2.one 6 rfl)
    all_goals
      go_wp2
      go_ret2
      exact ⟨rfl, (k2.set 5 (.int .i64 n) (by simp [alC])).as rfl, (o2.setCell (p := ⟨b, 5, none⟩) (.int .i64 n)).as rfl rfl rfl rfl⟩
  · go_enter Try.func42, Try.ntmps42
    go_wp2_with fail
    refine (oget_any _ _ _).mono ?_
    rintro e w1 ⟨rfl, hb1⟩
    have k1 := k.bel hb1
    have o1 : Beside b w w1 := .of_below hb1
    clear q0 q1 q2 q3 q4 q5 q6 f0 f1 f2 f3 f4 f5 f6 k hb1
    obtain ⟨q0, f0⟩ := k1.one 0 rfl
    obtain ⟨q1, f1⟩ := k1.one 1 rfl
    obtain ⟨q2, f2⟩ := k1.one 2 rfl
    obtain ⟨q3, f3⟩ := k1.one 3 rfl
    obtain ⟨q4, f4⟩ := k1.one 4 rfl
    obtain ⟨q5, f5⟩ := k1.one 5 rfl
    obtain ⟨q6, f6⟩ := k1.one 6 rfl
    go_wp2_with (go_at_call 55; refine (CL.out _).mono ?_; rintro e w1 ⟨rfl, rfl⟩)
    go_region_with (go_at_call 35; (first | (with_reducible refine (NX.out _).mono ?_) | (with_reducible refine (NX2.out _).mono ?_)); rintro e w2 ⟨rfl, hb2⟩; have k2 := Held.bel (k1.drew) hb2; have o2 : Beside b w w2 := Beside.trans (o1.as (v' := w1.drew) rfl rfl rfl rfl) (.of_below hb2); obtain ⟨p5, g5⟩ := k2.one 5 rfl; obtain ⟨p6, g6⟩ := k2.one 6 rfl)
    all_goals
      have k3 := k2.set 5 (.int .i64 n) (by simp [alC])
      have o3 := o2.setCell (p := ⟨b, 5, none⟩) (.int .i64 n)
      generalize hv : w2.setCell ⟨b, 5, none⟩ (.int .i64 n) = v at *
      obtain ⟨r5, s5⟩ := k3.one 5 rfl
      obtain ⟨r6, s6⟩ := k3.one 6 rfl
      go_wp2_with (go_at_call 51; refine (aadd64 _ _ _ _ r6 s6 (by omega) (by omega)).mono ?_; rintro e w1 ⟨rfl, rfl⟩)
      go_ret2
      exact ⟨rfl, (k3.set 6 (.int .i64 (ch + 1)) (by simp [alC])).as rfl, (o3.setCell (p := ⟨b, 6, none⟩) (.int .i64 (ch + 1))).as rfl rfl rfl rfl⟩
end Go.Proofs.Ytmoamadpaepcfaa
