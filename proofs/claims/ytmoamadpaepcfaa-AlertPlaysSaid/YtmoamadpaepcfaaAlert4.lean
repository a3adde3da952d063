/- The example of chapter 42; the law AlertNexts, walked. -/
import Derived.Test.YtmoamadpaepcfaaAlert3a
import Derived.Test.YtmoamadpaepcfaaAlert3b
namespace Go.Proofs.Ytmoamadpaepcfaa
open Go.ChangeShapes Go.WideShapes Go.ChangeAt Go.RowKit
set_option linter.unusedVariables false

set_option maxHeartbeats 1000000 in
theorem astep_ok (b : Nat) {h wn nr sv : Int} {st ch : Int} (x : Int) (w : World) (k : Held b (alC h wn nr sv true st ch) w) (hr : alR h wn nr = true) (hs : -100000000 ≤ sv ∧ sv ≤ 100000000) (c0 : 0 ≤ ch) (c1 : ch < 4611686018427387904) :
    Calls Try.prog 42 #[.pointer (some ⟨b, 0, none⟩), .int .i64 x] w fun e w' => e = .returned (.tuple #[.int .i64 (nxt st (dst (cl8 x) sv) h wn nr), .bool (chm st (nxt st (dst (cl8 x) sv) h wn nr))]) ∧
      Held b (alC h wn nr sv true (nxt st (dst (cl8 x) sv) h wn nr) (bump (chm st (nxt st (dst (cl8 x) sv) h wn nr)) ch)) w' ∧ Beside b w w' := by
  by_cases hneg : cl8 x - sv < -(cl8 x - sv)
  · exact astep_neg b x w k hr hs c0 c1 hneg
  · exact astep_pos b x w k hr hs c0 c1 hneg

theorem alC_n {b : Nat} {h wn nr sv : Int} {sk : Bool} {st ch st' ch' : Int} {w : World} (k : Held b (alC h wn nr sv sk st ch) w) (e1 : st = st') (e2 : ch = ch') : Held b (alC h wn nr sv sk st' ch') w := by subst e1; subst e2; exact k

set_option maxHeartbeats 1000000 in
theorem lives42 (w : World) : Calls Try.prog 37 #[] w fun e w' => e = .returned (.bool true) ∧ Below w.heap.size w w' := by
  have hr : alR 100 200 900 = true := by decide
  have hs : (-100000000 : Int) ≤ 0 ∧ (0 : Int) ≤ 100000000 := by omega
  go_enter Try.func37, Try.ntmps37
  go_wp2_with fail
  refine (anew_ok 100 200 900 _ hr).mono ?_
  rintro e w1 ⟨b, hb, rfl, k1, hb1⟩
  go_wp2_with fail
  refine (aselect_any b 0 _ k1).mono ?_
  rintro e w2 ⟨rfl, k2, o2⟩
  have hb2 := Below.beside hb1 o2 hb
  go_wp2_with fail
  refine (astep_ok b 1000 _ k2 hr (by decide) (by omega) (by omega)).mono ?_
  rw [show nxt 0 (dst (cl8 1000) (cl8 0)) 100 200 900 = 1 by decide, show chm 0 1 = false by decide]
  rintro e w3 ⟨rfl, k3, o3⟩
  have hb3 := Below.beside hb2 o3 hb
  go_wp2_with fail
  refine (astep_ok b 500 _ k3 hr (by decide) (by decide) (by decide)).mono ?_
  rw [show nxt 1 (dst (cl8 500) (cl8 0)) 100 200 900 = 2 by decide, show chm 1 2 = true by decide]
  rintro e w4 ⟨rfl, k4, o4⟩
  have hb4 := Below.beside hb3 o4 hb
  go_wp2_with fail
  refine (astep_ok b 50 _ k4 hr (by decide) (by decide) (by decide)).mono ?_
  rw [show nxt 2 (dst (cl8 50) (cl8 0)) 100 200 900 = 3 by decide, show chm 2 3 = false by decide]
  rintro e w5 ⟨rfl, k5, o5⟩
  have hb5 := Below.beside hb4 o5 hb
  go_wp2_with fail
  refine (astep_ok b 300 _ k5 hr (by decide) (by decide) (by decide)).mono ?_
  rw [show nxt 3 (dst (cl8 300) (cl8 0)) 100 200 900 = 4 by decide, show chm 3 4 = true by decide]
  rintro e w6 ⟨rfl, k6, o6⟩
  have hb6 := Below.beside hb5 o6 hb
  have k6 := alC_n k6 rfl (show bump true (bump false (bump true (bump false 0))) = 2 by decide)
  go_wp2_with (go_at_call 44; refine (achimes_any b _ k6).mono ?_; rintro e w1 ⟨rfl, rfl⟩)
  go_ret
  exact ⟨rfl, hb6⟩

set_option maxHeartbeats 1000000 in
theorem law_AlertNexts (st d h wn nr : Int) (w : World) :
    Calls Try.prog 11 #[.int .i64 st, .int .i64 d, .agg #[.int .i64 h, .int .i64 wn, .int .i64 nr]] w fun e w' => e = .returned (.bool true) ∧ Below w.heap.size w w' := by
  have hq0 := Held.new w [.int .i64 h, .int .i64 wn, .int .i64 nr] 57
  have hb0 : Below w.heap.size w (w.alloc (.cells #[.int .i64 h, .int .i64 wn, .int .i64 nr] 57)) := (Below.refl _ _).alloc (Nat.le_refl _) _
  cases hr : alR h wn nr
  · have RR := Lib.hid (fun v => raright_any h wn nr v)
    have AR := Lib.hid (fun v => aright_any h wn nr v)
    rw [hr] at RR AR
    go_enter Try.func11, Try.ntmps11
    go_wp2_with fail
    refine (RR.out _).mono ?_
    rintro e w1 ⟨rfl, hb1⟩
    have hq1 := hq0.bel hb1
    have hb1 := hb0.trans (hb1.mono hb0.size)
    obtain ⟨q0, f0⟩ := hq1.one 0 rfl
    obtain ⟨q1, f1⟩ := hq1.one 1 rfl
    obtain ⟨q2, f2⟩ := hq1.one 2 rfl
    go_wp2_with fail
    refine (next_no st d h wn nr _ hr).mono ?_
    rintro e w2 ⟨rfl, hb2⟩
    have hq2 := hq1.bel hb2
    have hb2 := hb1.trans (hb2.mono hb1.size)
    clear q0 q1 q2 f0 f1 f2
    obtain ⟨q0, f0⟩ := hq2.one 0 rfl
    obtain ⟨q1, f1⟩ := hq2.one 1 rfl
    obtain ⟨q2, f2⟩ := hq2.one 2 rfl
    go_wp2_with fail
    refine (AR.out _).mono ?_
    rintro e w3 ⟨rfl, hb3⟩
    have hb3 := hb2.trans (hb3.mono hb2.size)
    go_wp2_with (go_at_call 37; refine (lives42 _).mono ?_; rintro e w1 ⟨rfl, hb4⟩)
    go_ret
    exact ⟨rfl, hb3.trans (hb4.mono hb3.size)⟩
  · have RR := Lib.hid (fun v => raright_any h wn nr v)
    have AR := Lib.hid (fun v => aright_any h wn nr v)
    rw [hr] at RR AR
    have N1 := Lib.hid (fun v => next_ok st d h wn nr v hr)
    have N2 := Lib.hid (fun v => rnext_ok st d h wn nr v hr)
    generalize nxt st d h wn nr = n at *
    generalize chm st n = c at *
    go_enter Try.func11, Try.ntmps11
    go_wp2_with fail
    refine (RR.out _).mono ?_
    rintro e w1 ⟨rfl, hb1⟩
    have hq1 := hq0.bel hb1
    have hb1 := hb0.trans (hb1.mono hb0.size)
    obtain ⟨q0, f0⟩ := hq1.one 0 rfl
    obtain ⟨q1, f1⟩ := hq1.one 1 rfl
    obtain ⟨q2, f2⟩ := hq1.one 2 rfl
    go_wp2_with fail
    refine (N1.out _).mono ?_
    rintro e w2 ⟨rfl, hb2⟩
    have hq2 := hq1.bel hb2
    have hb2 := hb1.trans (hb2.mono hb1.size)
    clear q0 q1 q2 f0 f1 f2
    obtain ⟨q0, f0⟩ := hq2.one 0 rfl
    obtain ⟨q1, f1⟩ := hq2.one 1 rfl
    obtain ⟨q2, f2⟩ := hq2.one 2 rfl
    go_wp2_with fail
    refine (AR.out _).mono ?_
    rintro e w3 ⟨rfl, hb3⟩
    have hq3 := hq2.bel hb3
    have hb3 := hb2.trans (hb3.mono hb2.size)
    clear q0 q1 q2 f0 f1 f2
    obtain ⟨q0, f0⟩ := hq3.one 0 rfl
    obtain ⟨q1, f1⟩ := hq3.one 1 rfl
    obtain ⟨q2, f2⟩ := hq3.one 2 rfl
    go_wp2_with fail
    refine (N2.out _).mono ?_
    rintro e w4 ⟨rfl, hb4⟩
    have hb4 := hb3.trans (hb4.mono hb3.size)
    go_wp2_with (go_at_call 37; refine (lives42 _).mono ?_; rintro e w1 ⟨rfl, hb5⟩)
    go_ret
    exact ⟨rfl, hb4.trans (hb5.mono hb4.size)⟩
end Go.Proofs.Ytmoamadpaepcfaa
