/- Package gate: a check; the document's gate; the chapter's example. -/
import Derived.Test.YtbbmkmkalghaeaaGate1
namespace Go.Proofs.Ytbbmkmkalghaeaa
open Go.ChangeShapes Go.WideShapes Go.ChangeAt Go.RowKit
set_option linter.unusedVariables false
set_option linter.unusedSimpArgs false

def gaA (e v la : Int) : Int := if e = 0 then v else la
def gaB (e : Int) (kn : Bool) : Bool := decide (e = 0) || kn
def gaN (e t : Int) : Int := if e = 0 then 0 else t

set_option maxRecDepth 100000 in
set_option maxHeartbeats 2000000 in
theorem gcheck_any (b : Nat) {lo hi ra la : Int} {kn : Bool} {tk : Int} (v : Int) (w : World) (h : Held b (gaC lo hi ra la kn tk) w) (ok : GaOk lo hi ra) (t0 : 0 ≤ tk) (t1 : tk ≤ 1000) (l0 : -549755813887 ≤ la) (l1 : la ≤ 549755813887) :
    Calls Try.prog 116 #[.pointer (some ⟨b, 0, none⟩), .int .i64 v] w fun r w' => r = .returned (.int .i64 (gaE lo hi ra la kn (gaT tk) v)) ∧ Held b (gaC lo hi ra (gaA (gaE lo hi ra la kn (gaT tk) v) v la) (gaB (gaE lo hi ra la kn (gaT tk) v) kn) (gaN (gaE lo hi ra la kn (gaT tk) v) (gaT tk))) w' ∧ Beside b w w' := by
  obtain ⟨o1, o2, o3, o4, o5⟩ := ok
  have MS := Lib.hid (fun u hu => gmiss_any (lo := lo) (hi := hi) (ra := ra) (la := la) (kn := kn) (tk := tk) b u hu t0 t1)
  have tb := gaT_bd t0 t1
  generalize gaT tk = t at *
  have TF := Lib.hid (fun v0 v1 u hu => gfast_any (lo := lo) (hi := hi) (ra := ra) (la := la) (kn := kn) (tk := t) b v u hu o4 o5 (by omega) tb.2 l0 l1 v0 v1)
  have ba := h.lt
  by_cases c1 : v < lo
  · have e : gaE lo hi ra la kn t v = 8 := by unfold gaE; rw [if_pos c1]
    rw [e]
    go_enter Try.func116, Try.ntmps116
    go_wp2_with fail
    refine (MS.out _ h).mono ?_
    rintro r w1 ⟨rfl, h1, ob1⟩
    obtain ⟨c0, f0⟩ := h1.one 0 rfl
    obtain ⟨c1, f1⟩ := h1.one 1 rfl
    obtain ⟨c2, f2⟩ := h1.one 2 rfl
    obtain ⟨c3, f3⟩ := h1.one 3 rfl
    obtain ⟨c4, f4⟩ := h1.one 4 rfl
    obtain ⟨c5, f5⟩ := h1.one 5 rfl
    go_wp2
    all_goals first | (exfalso; omega) | skip
    go_ret
    exact ⟨rfl, ((HB.mk h1 ob1).is (show _ = gaC lo hi ra (gaA 8 v la) (gaB 8 kn) (gaN 8 t) by simp [gaA, gaB, gaN])).fin rfl rfl rfl rfl⟩
  · by_cases c2 : hi < v
    · have e : gaE lo hi ra la kn t v = 9 := by unfold gaE; rw [if_neg c1, if_pos c2]
      rw [e]
      go_enter Try.func116, Try.ntmps116
      go_wp2_with fail
      refine (MS.out _ h).mono ?_
      rintro r w1 ⟨rfl, h1, ob1⟩
      obtain ⟨c0, f0⟩ := h1.one 0 rfl
      obtain ⟨c1, f1⟩ := h1.one 1 rfl
      obtain ⟨c2, f2⟩ := h1.one 2 rfl
      obtain ⟨c3, f3⟩ := h1.one 3 rfl
      obtain ⟨c4, f4⟩ := h1.one 4 rfl
      obtain ⟨c5, f5⟩ := h1.one 5 rfl
      go_wp2
      all_goals first | (exfalso; omega) | skip
      go_ret
      exact ⟨rfl, ((HB.mk h1 ob1).is (show _ = gaC lo hi ra (gaA 9 v la) (gaB 9 kn) (gaN 9 t) by simp [gaA, gaB, gaN])).fin rfl rfl rfl rfl⟩
    · have TF := Lib.hid (TF.out (by omega) (by omega))
      cases hF : gaF ra la kn t v
      · have e : gaE lo hi ra la kn t v = 0 := by unfold gaE; rw [if_neg c1, if_neg c2, hF]; rfl
        rw [e]
        rw [hF] at TF
        go_enter Try.func116, Try.ntmps116
        go_wp2_with fail
        refine (MS.out _ h).mono ?_
        rintro r w1 ⟨rfl, h1, ob1⟩
        obtain ⟨c0, f0⟩ := h1.one 0 rfl
        obtain ⟨c1, f1⟩ := h1.one 1 rfl
        obtain ⟨c2, f2⟩ := h1.one 2 rfl
        obtain ⟨c3, f3⟩ := h1.one 3 rfl
        obtain ⟨c4, f4⟩ := h1.one 4 rfl
        obtain ⟨c5, f5⟩ := h1.one 5 rfl
        go_wp2_with fail
        all_goals first | (exfalso; omega) | skip
        refine (TF.out _ h1).mono ?_
        rintro r w2 ⟨rfl, hb2⟩
        have h2 := h1.bel hb2
        have ob2 : Beside b w w2 := ob1.trans (Beside.of_below hb2)
        clear c0 c1 c2 c3 c4 c5 f0 f1 f2 f3 f4 f5 h1
        obtain ⟨c0, f0⟩ := h2.one 0 rfl
        obtain ⟨c1, f1⟩ := h2.one 1 rfl
        obtain ⟨c2, f2⟩ := h2.one 2 rfl
        obtain ⟨c3, f3⟩ := h2.one 3 rfl
        obtain ⟨c4, f4⟩ := h2.one 4 rfl
        obtain ⟨c5, f5⟩ := h2.one 5 rfl
        go_wp2
        go_ret
        exact ⟨rfl, (((((HB.mk h2 ob2).set 3 (.int .i64 v) (by simp [gaC])).set 4 (.bool true) (by simp [gaC])).set 5 (.int .i64 0) (by simp [gaC])).is (show _ = gaC lo hi ra (gaA 0 v la) (gaB 0 kn) (gaN 0 t) by simp [gaA, gaB, gaN, gaC])).fin rfl rfl rfl rfl⟩
      · have e : gaE lo hi ra la kn t v = 7 := by unfold gaE; rw [if_neg c1, if_neg c2, hF]; rfl
        rw [e]
        rw [hF] at TF
        go_enter Try.func116, Try.ntmps116
        go_wp2_with fail
        refine (MS.out _ h).mono ?_
        rintro r w1 ⟨rfl, h1, ob1⟩
        obtain ⟨c0, f0⟩ := h1.one 0 rfl
        obtain ⟨c1, f1⟩ := h1.one 1 rfl
        obtain ⟨c2, f2⟩ := h1.one 2 rfl
        obtain ⟨c3, f3⟩ := h1.one 3 rfl
        obtain ⟨c4, f4⟩ := h1.one 4 rfl
        obtain ⟨c5, f5⟩ := h1.one 5 rfl
        go_wp2_with fail
        all_goals first | (exfalso; omega) | skip
        refine (TF.out _ h1).mono ?_
        rintro r w2 ⟨rfl, hb2⟩
        have h2 := h1.bel hb2
        have ob2 : Beside b w w2 := ob1.trans (Beside.of_below hb2)
        clear c0 c1 c2 c3 c4 c5 f0 f1 f2 f3 f4 f5 h1
        go_wp2
        go_ret
        exact ⟨rfl, ((HB.mk h2 ob2).is (show _ = gaC lo hi ra (gaA 7 v la) (gaB 7 kn) (gaN 7 t) by simp [gaA, gaB, gaN])).fin rfl rfl rfl rfl⟩

theorem gaCR_eq {b : Nat} {lo hi ra la tk la' tk' : Int} {kn kn' : Bool} {w : World} (h : Held b (gaC lo hi ra la kn tk) w) (e1 : la = la') (e2 : kn = kn') (e3 : tk = tk') : Held b (gaC lo hi ra la' kn' tk') w := by
  subst e1 e2 e3; exact h

set_option maxHeartbeats 1000000 in
theorem gright_any (lo hi ra : Int) (w : World) : Calls Try.prog 82 #[.agg #[.int .i64 lo, .int .i64 hi, .int .i64 ra]] w fun e w' => e = .returned (.bool (gaR lo hi ra)) ∧ Below w.heap.size w w' := by
  cases h : gaR lo hi ra
  · have h := gaR_no h
    go_enter Try.func82, Try.ntmps82
    go_wp2
    all_goals first | (exfalso; omega) | skip
    all_goals
      go_ret
      refine ⟨ret_bool ?_, (by repeat (first | exact Below.refl _ _ | assumption | apply Below.drew | apply below_drewN | (refine Below.alloc ?_ (by first | exact Nat.le_refl _ | omega | (simp <;> omega)) _) | (refine Below.setCell ?_ (by first | exact Nat.le_refl _ | omega | (simp <;> omega)) _)))⟩
      simp
      try omega
  · obtain ⟨h1, h2, h3, h4, h5⟩ := gaR_ok h
    clear h
    go_enter Try.func82, Try.ntmps82
    go_wp2
    go_ret
    refine ⟨ret_bool ?_, (by repeat (first | exact Below.refl _ _ | assumption | apply Below.drew | apply below_drewN | (refine Below.alloc ?_ (by first | exact Nat.le_refl _ | omega | (simp <;> omega)) _) | (refine Below.setCell ?_ (by first | exact Nat.le_refl _ | omega | (simp <;> omega)) _)))⟩
    simp
    try omega
end Go.Proofs.Ytbbmkmkalghaeaa
