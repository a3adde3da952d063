/- The document's fader: a step. -/
import Derived.Test.YtkchacjlddddjaaFade3
import Derived.Test.YtkchacjlddddjaaReg
import Derived.Test.YtkchacjlddddjaaHb
import Derived.BigRegion
namespace Go.Proofs.Ytkchacjlddddjaa
open Go.ChangeShapes Go.WideShapes Go.ChangeAt Go.RowKit
set_option linter.unusedVariables false
set_option linter.unusedSimpArgs false

def rfC (len lf out : Int) (kn : Bool) : List Value := [.int .i64 len, .int .i64 lf, .int .i64 out, .bool kn]

set_option maxHeartbeats 4000000 in
theorem rfstep_any (b : Nat) {len out : Int} {kn : Bool} {lf : Int} (v : Int) (ch : Bool) (w : World) (h : Held b (rfC len lf out kn) w) (n0 : 0 ≤ lf) (n1 : lf ≤ len) (n2 : len ≤ 1000) (o1 : -549755813887 ≤ out) (o2 : out ≤ 549755813887) :
    Calls Try.prog 50 #[.pointer (some ⟨b, 0, none⟩), .int .i64 v, .bool ch] w fun e w' => e = .returned (.int .i64 (fdV (fdL len kn ch lf) out (clq v))) ∧ Held b (rfC len (fdN (fdL len kn ch lf)) (fdV (fdL len kn ch lf) out (clq v)) true) w' ∧ Beside b w w' := by
  have CL := Lib.hid (fun u => r16clip_any v u)
  have xb := clq_bd v
  generalize clq v = x at *
  have Lb := fdL_bd kn ch n0 n1
  obtain ⟨c0, f0⟩ := h.one 0 rfl
  obtain ⟨c1, f1⟩ := h.one 1 rfl
  obtain ⟨c2, f2⟩ := h.one 2 rfl
  obtain ⟨c3, f3⟩ := h.one 3 rfl
  by_cases hL : 0 < fdL len kn ch lf
  · have e : fdV (fdL len kn ch lf) out x = out + (x - out).tdiv (fdL len kn ch lf) := by unfold fdV; rw [if_pos hL]
    have bd := fdV_between (fdL len kn ch lf) out x
    rw [e] at bd ⊢
    rw [show fdN (fdL len kn ch lf) = fdL len kn ch lf - 1 by unfold fdN; rw [if_pos hL]]
    clear e
    have pb := part_bd (x - out) _ hL
    generalize hD : (x - out).tdiv (fdL len kn ch lf) = D at *
    have hw : IntKind.i64.wrap ((x - out).tdiv (fdL len kn ch lf)) = D := by rw [hD]; exact IntWalk.i64_in _ ⟨by omega, by omega⟩
    have hne : ¬ fdL len kn ch lf = 0 := by omega
    have hm1 : ¬ fdL len kn ch lf = -1 := by omega
    clear hD
    cases ch <;> cases kn <;> simp only [fdL, Bool.and_true, Bool.and_false, Bool.false_and, Bool.true_and, if_true, if_false, Bool.false_eq_true] at *
    all_goals
      go_enter Try.func50, Try.ntmps50
      go_wp2_with ((go_at_call 27; (with_reducible refine (CL.out _).mono ?_); rintro e w' ⟨rfl, rfl⟩))
      go_region
      all_goals
        go_wp2
        go_ret
        first
          | exact ⟨rfl, ((((HB.start h).set 3 (.bool true) (by simp [rfC])).set 2 (.int .i64 (out + D)) (by simp [rfC])).set 1 (.int .i64 (lf - 1)) (by simp [rfC])).fin rfl rfl rfl rfl⟩
          | exact ⟨rfl, (((((HB.start h).set 1 (.int .i64 len) (by simp [rfC])).set 3 (.bool true) (by simp [rfC])).set 2 (.int .i64 (out + D)) (by simp [rfC])).set 1 (.int .i64 (len - 1)) (by simp [rfC])).fin rfl rfl rfl rfl⟩
  · have e : fdL len kn ch lf = 0 := by omega
    rw [e, show fdV 0 out x = x by unfold fdV; simp, show fdN 0 = 0 by decide]
    cases ch <;> cases kn <;> simp only [fdL, Bool.and_true, Bool.and_false, Bool.false_and, Bool.true_and, if_true, if_false, Bool.false_eq_true] at *
    all_goals
      subst e
      go_enter Try.func50, Try.ntmps50
      go_wp2_with ((go_at_call 27; (with_reducible refine (CL.out _).mono ?_); rintro e w' ⟨rfl, rfl⟩))
      go_ret
      first
        | exact ⟨rfl, (((HB.start h).set 3 (.bool true) (by simp [rfC])).set 2 (.int .i64 x) (by simp [rfC])).fin rfl rfl rfl rfl⟩
        | exact ⟨rfl, ((((HB.start h).set 1 (.int .i64 0) (by simp [rfC])).set 3 (.bool true) (by simp [rfC])).set 2 (.int .i64 x) (by simp [rfC])).fin rfl rfl rfl rfl⟩
end Go.Proofs.Ytkchacjlddddjaa
