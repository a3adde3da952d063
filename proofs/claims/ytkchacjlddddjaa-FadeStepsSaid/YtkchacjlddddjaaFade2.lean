/- fade.Step, walked. -/
import Derived.Test.YtkchacjlddddjaaFade1
namespace Go.Proofs.Ytkchacjlddddjaa
open Go.ChangeShapes Go.WideShapes Go.ChangeAt Go.RowKit
set_option linter.unusedVariables false

set_option maxHeartbeats 4000000 in
theorem fstep_any (b : Nat) {len out : Int} {kn : Bool} {lf : Int} (v : Int) (ch : Bool) (w : World) (h : Held b (fdC len out kn lf) w) (n0 : 0 ≤ lf) (n1 : lf ≤ len) (n2 : len ≤ 1000) (o1 : -549755813887 ≤ out) (o2 : out ≤ 549755813887) :
    Calls Try.prog 47 #[.pointer (some ⟨b, 0, none⟩), .int .i64 v, .bool ch] w fun e w' => e = .returned (.int .i64 (fdV (fdL len kn ch lf) out (clq v))) ∧ Held b (fdC len (fdV (fdL len kn ch lf) out (clq v)) true (fdN (fdL len kn ch lf))) w' ∧ Beside b w w' := by
  have OG := Lib.hid (fun u => oget_any out kn u)
  obtain ⟨c0, f0⟩ := h.one 0 rfl
  obtain ⟨c1, f1⟩ := h.one 1 rfl
  obtain ⟨c2, f2⟩ := h.one 2 rfl
  obtain ⟨c3, f3⟩ := h.one 3 rfl
  rcases clq_cases v with ⟨hv, hc⟩ | ⟨hv, hc⟩ | ⟨hv, hv', hc⟩
  · rw [hc]
    clear hc
    by_cases hq : ch = true ∧ kn = true
    · obtain ⟨rfl, rfl⟩ := hq
      rw [show fdL len true true lf = len from rfl]
      by_cases hL : 0 < len
      · have e : fdV len out (-549755813887) = out + ((-549755813887) - out).tdiv len := by unfold fdV; rw [if_pos hL]
        have bd := fdV_between len out (-549755813887)
        rw [e] at bd ⊢
        rw [show fdN len = len - 1 by unfold fdN; rw [if_pos hL]]
        clear e
        have pb := part_bd ((-549755813887) - out) len hL
        generalize hD : ((-549755813887) - out).tdiv len = D at *
        have hw : IntKind.i64.wrap (((-549755813887) - out).tdiv len) = D := by rw [hD]; exact IntWalk.i64_in _ ⟨by omega, by omega⟩
        have hne : ¬ len = 0 := by omega
        have hm1 : ¬ len = -1 := by omega
        clear hD
        go_enter Try.func47, Try.ntmps47
        go_wp2_with fail
        refine (OG.out _).mono ?_
        rintro e w1 ⟨rfl, hb1⟩
        have h1 := h.bel hb1
        clear c0 c1 c2 c3 f0 f1 f2 f3 h OG
        obtain ⟨c0, f0⟩ := h1.one 0 rfl
        obtain ⟨c1, f1⟩ := h1.one 1 rfl
        obtain ⟨c2, f2⟩ := h1.one 2 rfl
        obtain ⟨c3, f3⟩ := h1.one 3 rfl
        go_wp2_with fail
        refine (oof_any _ _).mono ?_
        rintro e w2 ⟨rfl, hb2⟩
        have h2 := Held.bel ((h1.set 3 (.int .i64 len) (by simp [fdC])).set 3 (.int .i64 (len - 1)) (by simp [fdC])) hb2
        have ob : Beside b w w2 := (Beside.of_below hb1).trans ((Beside.of_only (((Only.refl b w1).setCell (p := ⟨b, 3, none⟩) (.int .i64 len)).setCell (p := ⟨b, 3, none⟩) (.int .i64 (len - 1)))).trans (Beside.of_below hb2))
        clear c0 c1 c2 c3 f0 f1 f2 f3
        obtain ⟨c0, f0⟩ := h2.one 0 rfl
        obtain ⟨c1, f1⟩ := h2.one 1 rfl
        obtain ⟨c2, f2⟩ := h2.one 2 rfl
        obtain ⟨c3, f3⟩ := h2.one 3 rfl
        go_wp2
        go_ret
        exact ⟨rfl, (h2.set 1 (.int .i64 (out + D)) (by simp [fdC])).set 2 (.bool true) (by simp [fdC]), (ob.setCell (p := ⟨b, 1, none⟩) _).setCell (p := ⟨b, 2, none⟩) _⟩
      · obtain rfl : len = 0 := by omega
        rw [show fdV 0 out (-549755813887) = (-549755813887) by unfold fdV; simp, show fdN 0 = 0 by decide]
        go_enter Try.func47, Try.ntmps47
        go_wp2_with fail
        refine (OG.out _).mono ?_
        rintro e w1 ⟨rfl, hb1⟩
        have h1 := h.bel hb1
        clear c0 c1 c2 c3 f0 f1 f2 f3 h OG
        obtain ⟨c0, f0⟩ := h1.one 0 rfl
        obtain ⟨c1, f1⟩ := h1.one 1 rfl
        obtain ⟨c2, f2⟩ := h1.one 2 rfl
        obtain ⟨c3, f3⟩ := h1.one 3 rfl
        go_wp2_with fail
        refine (oof_any _ _).mono ?_
        rintro e w2 ⟨rfl, hb2⟩
        have h2 := Held.bel (h1.set 3 (.int .i64 0) (by simp [fdC])) hb2
        have ob : Beside b w w2 := (Beside.of_below hb1).trans ((Beside.of_only ((Only.refl b w1).setCell (p := ⟨b, 3, none⟩) (.int .i64 0))).trans (Beside.of_below hb2))
        clear c0 c1 c2 c3 f0 f1 f2 f3
        obtain ⟨c0, f0⟩ := h2.one 0 rfl
        obtain ⟨c1, f1⟩ := h2.one 1 rfl
        obtain ⟨c2, f2⟩ := h2.one 2 rfl
        obtain ⟨c3, f3⟩ := h2.one 3 rfl
        go_wp2
        go_ret
        exact ⟨rfl, (h2.set 1 (.int .i64 ((-549755813887))) (by simp [fdC])).set 2 (.bool true) (by simp [fdC]), (ob.setCell (p := ⟨b, 1, none⟩) _).setCell (p := ⟨b, 2, none⟩) _⟩
    · rw [show fdL len kn ch lf = lf by unfold fdL; cases ch <;> cases kn <;> simp at hq ⊢]
      by_cases hL : 0 < lf
      · have e : fdV lf out (-549755813887) = out + ((-549755813887) - out).tdiv lf := by unfold fdV; rw [if_pos hL]
        have bd := fdV_between lf out (-549755813887)
        rw [e] at bd ⊢
        rw [show fdN lf = lf - 1 by unfold fdN; rw [if_pos hL]]
        clear e
        have pb := part_bd ((-549755813887) - out) lf hL
        generalize hD : ((-549755813887) - out).tdiv lf = D at *
        have hw : IntKind.i64.wrap (((-549755813887) - out).tdiv lf) = D := by rw [hD]; exact IntWalk.i64_in _ ⟨by omega, by omega⟩
        have hne : ¬ lf = 0 := by omega
        have hm1 : ¬ lf = -1 := by omega
        clear hD
        cases ch <;> cases kn <;> simp at hq
        all_goals
          go_enter Try.func47, Try.ntmps47
          go_wp2_with fail
          refine (OG.out _).mono ?_
          rintro e w1 ⟨rfl, hb1⟩
          have h1 := h.bel hb1
          clear c0 c1 c2 c3 f0 f1 f2 f3 h OG
          obtain ⟨c0, f0⟩ := h1.one 0 rfl
          obtain ⟨c1, f1⟩ := h1.one 1 rfl
          obtain ⟨c2, f2⟩ := h1.one 2 rfl
          obtain ⟨c3, f3⟩ := h1.one 3 rfl
          go_wp2_with fail
          refine (oof_any _ _).mono ?_
          rintro e w2 ⟨rfl, hb2⟩
          have h2 := Held.bel (h1.set 3 (.int .i64 (lf - 1)) (by simp [fdC])) hb2
          have ob : Beside b w w2 := (Beside.of_below hb1).trans ((Beside.of_only ((Only.refl b w1).setCell (p := ⟨b, 3, none⟩) (.int .i64 (lf - 1)))).trans (Beside.of_below hb2))
          clear c0 c1 c2 c3 f0 f1 f2 f3
          obtain ⟨c0, f0⟩ := h2.one 0 rfl
          obtain ⟨c1, f1⟩ := h2.one 1 rfl
          obtain ⟨c2, f2⟩ := h2.one 2 rfl
          obtain ⟨c3, f3⟩ := h2.one 3 rfl
          go_wp2
          go_ret
          exact ⟨rfl, (h2.set 1 (.int .i64 (out + D)) (by simp [fdC])).set 2 (.bool true) (by simp [fdC]), (ob.setCell (p := ⟨b, 1, none⟩) _).setCell (p := ⟨b, 2, none⟩) _⟩
      · obtain rfl : lf = 0 := by omega
        rw [show fdV 0 out (-549755813887) = (-549755813887) by unfold fdV; simp, show fdN 0 = 0 by decide]
        cases ch <;> cases kn <;> simp at hq
        all_goals
          go_enter Try.func47, Try.ntmps47
          go_wp2_with fail
          refine (OG.out _).mono ?_
          rintro e w1 ⟨rfl, hb1⟩
          have h1 := h.bel hb1
          clear c0 c1 c2 c3 f0 f1 f2 f3 h OG
          obtain ⟨c0, f0⟩ := h1.one 0 rfl
          obtain ⟨c1, f1⟩ := h1.one 1 rfl
          obtain ⟨c2, f2⟩ := h1.one 2 rfl
          obtain ⟨c3, f3⟩ := h1.one 3 rfl
          go_wp2_with fail
          refine (oof_any _ _).mono ?_
          rintro e w2 ⟨rfl, hb2⟩
          have h2 := Held.bel (h1) hb2
          have ob : Beside b w w2 := (Beside.of_below hb1).trans ((Beside.of_only (Only.refl b w1)).trans (Beside.of_below hb2))
          clear c0 c1 c2 c3 f0 f1 f2 f3
          obtain ⟨c0, f0⟩ := h2.one 0 rfl
          obtain ⟨c1, f1⟩ := h2.one 1 rfl
          obtain ⟨c2, f2⟩ := h2.one 2 rfl
          obtain ⟨c3, f3⟩ := h2.one 3 rfl
          go_wp2
          go_ret
          exact ⟨rfl, (h2.set 1 (.int .i64 ((-549755813887))) (by simp [fdC])).set 2 (.bool true) (by simp [fdC]), (ob.setCell (p := ⟨b, 1, none⟩) _).setCell (p := ⟨b, 2, none⟩) _⟩
  · rw [hc]
    clear hc
    by_cases hq : ch = true ∧ kn = true
    · obtain ⟨rfl, rfl⟩ := hq
      rw [show fdL len true true lf = len from rfl]
      by_cases hL : 0 < len
      · have e : fdV len out 549755813887 = out + (549755813887 - out).tdiv len := by unfold fdV; rw [if_pos hL]
        have bd := fdV_between len out 549755813887
        rw [e] at bd ⊢
        rw [show fdN len = len - 1 by unfold fdN; rw [if_pos hL]]
        clear e
        have pb := part_bd (549755813887 - out) len hL
        generalize hD : (549755813887 - out).tdiv len = D at *
        have hw : IntKind.i64.wrap ((549755813887 - out).tdiv len) = D := by rw [hD]; exact IntWalk.i64_in _ ⟨by omega, by omega⟩
        have hne : ¬ len = 0 := by omega
        have hm1 : ¬ len = -1 := by omega
        clear hD
        go_enter Try.func47, Try.ntmps47
        go_wp2_with fail
        refine (OG.out _).mono ?_
        rintro e w1 ⟨rfl, hb1⟩
        have h1 := h.bel hb1
        clear c0 c1 c2 c3 f0 f1 f2 f3 h OG
        obtain ⟨c0, f0⟩ := h1.one 0 rfl
        obtain ⟨c1, f1⟩ := h1.one 1 rfl
        obtain ⟨c2, f2⟩ := h1.one 2 rfl
        obtain ⟨c3, f3⟩ := h1.one 3 rfl
        go_wp2_with fail
        refine (oof_any _ _).mono ?_
        rintro e w2 ⟨rfl, hb2⟩
        have h2 := Held.bel ((h1.set 3 (.int .i64 len) (by simp [fdC])).set 3 (.int .i64 (len - 1)) (by simp [fdC])) hb2
        have ob : Beside b w w2 := (Beside.of_below hb1).trans ((Beside.of_only (((Only.refl b w1).setCell (p := ⟨b, 3, none⟩) (.int .i64 len)).setCell (p := ⟨b, 3, none⟩) (.int .i64 (len - 1)))).trans (Beside.of_below hb2))
        clear c0 c1 c2 c3 f0 f1 f2 f3
        obtain ⟨c0, f0⟩ := h2.one 0 rfl
        obtain ⟨c1, f1⟩ := h2.one 1 rfl
        obtain ⟨c2, f2⟩ := h2.one 2 rfl
        obtain ⟨c3, f3⟩ := h2.one 3 rfl
        go_wp2
        go_ret
        exact ⟨rfl, (h2.set 1 (.int .i64 (out + D)) (by simp [fdC])).set 2 (.bool true) (by simp [fdC]), (ob.setCell (p := ⟨b, 1, none⟩) _).setCell (p := ⟨b, 2, none⟩) _⟩
      · obtain rfl : len = 0 := by omega
        rw [show fdV 0 out 549755813887 = 549755813887 by unfold fdV; simp, show fdN 0 = 0 by decide]
        go_enter Try.func47, Try.ntmps47
        go_wp2_with fail
        refine (OG.out _).mono ?_
        rintro e w1 ⟨rfl, hb1⟩
        have h1 := h.bel hb1
        clear c0 c1 c2 c3 f0 f1 f2 f3 h OG
        obtain ⟨c0, f0⟩ := h1.one 0 rfl
        obtain ⟨c1, f1⟩ := h1.one 1 rfl
        obtain ⟨c2, f2⟩ := h1.one 2 rfl
        obtain ⟨c3, f3⟩ := h1.one 3 rfl
        go_wp2_with fail
        refine (oof_any _ _).mono ?_
        rintro e w2 ⟨rfl, hb2⟩
        have h2 := Held.bel (h1.set 3 (.int .i64 0) (by simp [fdC])) hb2
        have ob : Beside b w w2 := (Beside.of_below hb1).trans ((Beside.of_only ((Only.refl b w1).setCell (p := ⟨b, 3, none⟩) (.int .i64 0))).trans (Beside.of_below hb2))
        clear c0 c1 c2 c3 f0 f1 f2 f3
        obtain ⟨c0, f0⟩ := h2.one 0 rfl
        obtain ⟨c1, f1⟩ := h2.one 1 rfl
        obtain ⟨c2, f2⟩ := h2.one 2 rfl
        obtain ⟨c3, f3⟩ := h2.one 3 rfl
        go_wp2
        go_ret
        exact ⟨rfl, (h2.set 1 (.int .i64 (549755813887)) (by simp [fdC])).set 2 (.bool true) (by simp [fdC]), (ob.setCell (p := ⟨b, 1, none⟩) _).setCell (p := ⟨b, 2, none⟩) _⟩
    · rw [show fdL len kn ch lf = lf by unfold fdL; cases ch <;> cases kn <;> simp at hq ⊢]
      by_cases hL : 0 < lf
      · have e : fdV lf out 549755813887 = out + (549755813887 - out).tdiv lf := by unfold fdV; rw [if_pos hL]
        have bd := fdV_between lf out 549755813887
        rw [e] at bd ⊢
        rw [show fdN lf = lf - 1 by unfold fdN; rw [if_pos hL]]
        clear e
        have pb := part_bd (549755813887 - out) lf hL
        generalize hD : (549755813887 - out).tdiv lf = D at *
        have hw : IntKind.i64.wrap ((549755813887 - out).tdiv lf) = D := by rw [hD]; exact IntWalk.i64_in _ ⟨by omega, by omega⟩
        have hne : ¬ lf = 0 := by omega
        have hm1 : ¬ lf = -1 := by omega
        clear hD
        cases ch <;> cases kn <;> simp at hq
        all_goals
          go_enter Try.func47, Try.ntmps47
          go_wp2_with fail
          refine (OG.out _).mono ?_
          rintro e w1 ⟨rfl, hb1⟩
          have h1 := h.bel hb1
          clear c0 c1 c2 c3 f0 f1 f2 f3 h OG
          obtain ⟨c0, f0⟩ := h1.one 0 rfl
          obtain ⟨c1, f1⟩ := h1.one 1 rfl
          obtain ⟨c2, f2⟩ := h1.one 2 rfl
          obtain ⟨c3, f3⟩ := h1.one 3 rfl
          go_wp2_with fail
          refine (oof_any _ _).mono ?_
          rintro e w2 ⟨rfl, hb2⟩
          have h2 := Held.bel (h1.set 3 (.int .i64 (lf - 1)) (by simp [fdC])) hb2
          have ob : Beside b w w2 := (Beside.of_below hb1).trans ((Beside.of_only ((Only.refl b w1).setCell (p := ⟨b, 3, none⟩) (.int .i64 (lf - 1)))).trans (Beside.of_below hb2))
          clear c0 c1 c2 c3 f0 f1 f2 f3
          obtain ⟨c0, f0⟩ := h2.one 0 rfl
          obtain ⟨c1, f1⟩ := h2.one 1 rfl
          obtain ⟨c2, f2⟩ := h2.one 2 rfl
          obtain ⟨c3, f3⟩ := h2.one 3 rfl
          go_wp2
          go_ret
          exact ⟨rfl, (h2.set 1 (.int .i64 (out + D)) (by simp [fdC])).set 2 (.bool true) (by simp [fdC]), (ob.setCell (p := ⟨b, 1, none⟩) _).setCell (p := ⟨b, 2, none⟩) _⟩
      · obtain rfl : lf = 0 := by omega
        rw [show fdV 0 out 549755813887 = 549755813887 by unfold fdV; simp, show fdN 0 = 0 by decide]
        cases ch <;> cases kn <;> simp at hq
        all_goals
          go_enter Try.func47, Try.ntmps47
          go_wp2_with fail
          refine (OG.out _).mono ?_
          rintro e w1 ⟨rfl, hb1⟩
          have h1 := h.bel hb1
          clear c0 c1 c2 c3 f0 f1 f2 f3 h OG
          obtain ⟨c0, f0⟩ := h1.one 0 rfl
          obtain ⟨c1, f1⟩ := h1.one 1 rfl
          obtain ⟨c2, f2⟩ := h1.one 2 rfl
          obtain ⟨c3, f3⟩ := h1.one 3 rfl
          go_wp2_with fail
          refine (oof_any _ _).mono ?_
          rintro e w2 ⟨rfl, hb2⟩
          have h2 := Held.bel (h1) hb2
          have ob : Beside b w w2 := (Beside.of_below hb1).trans ((Beside.of_only (Only.refl b w1)).trans (Beside.of_below hb2))
          clear c0 c1 c2 c3 f0 f1 f2 f3
          obtain ⟨c0, f0⟩ := h2.one 0 rfl
          obtain ⟨c1, f1⟩ := h2.one 1 rfl
          obtain ⟨c2, f2⟩ := h2.one 2 rfl
          obtain ⟨c3, f3⟩ := h2.one 3 rfl
          go_wp2
          go_ret
          exact ⟨rfl, (h2.set 1 (.int .i64 (549755813887)) (by simp [fdC])).set 2 (.bool true) (by simp [fdC]), (ob.setCell (p := ⟨b, 1, none⟩) _).setCell (p := ⟨b, 2, none⟩) _⟩
  · rw [hc]
    clear hc
    by_cases hq : ch = true ∧ kn = true
    · obtain ⟨rfl, rfl⟩ := hq
      rw [show fdL len true true lf = len from rfl]
      by_cases hL : 0 < len
      · have e : fdV len out v = out + (v - out).tdiv len := by unfold fdV; rw [if_pos hL]
        have bd := fdV_between len out v
        rw [e] at bd ⊢
        rw [show fdN len = len - 1 by unfold fdN; rw [if_pos hL]]
        clear e
        have pb := part_bd (v - out) len hL
        generalize hD : (v - out).tdiv len = D at *
        have hw : IntKind.i64.wrap ((v - out).tdiv len) = D := by rw [hD]; exact IntWalk.i64_in _ ⟨by omega, by omega⟩
        have hne : ¬ len = 0 := by omega
        have hm1 : ¬ len = -1 := by omega
        clear hD
        go_enter Try.func47, Try.ntmps47
        go_wp2_with fail
        refine (OG.out _).mono ?_
        rintro e w1 ⟨rfl, hb1⟩
        have h1 := h.bel hb1
        clear c0 c1 c2 c3 f0 f1 f2 f3 h OG
        obtain ⟨c0, f0⟩ := h1.one 0 rfl
        obtain ⟨c1, f1⟩ := h1.one 1 rfl
        obtain ⟨c2, f2⟩ := h1.one 2 rfl
        obtain ⟨c3, f3⟩ := h1.one 3 rfl
        go_wp2_with fail
        refine (oof_any _ _).mono ?_
        rintro e w2 ⟨rfl, hb2⟩
        have h2 := Held.bel ((h1.set 3 (.int .i64 len) (by simp [fdC])).set 3 (.int .i64 (len - 1)) (by simp [fdC])) hb2
        have ob : Beside b w w2 := (Beside.of_below hb1).trans ((Beside.of_only (((Only.refl b w1).setCell (p := ⟨b, 3, none⟩) (.int .i64 len)).setCell (p := ⟨b, 3, none⟩) (.int .i64 (len - 1)))).trans (Beside.of_below hb2))
        clear c0 c1 c2 c3 f0 f1 f2 f3
        obtain ⟨c0, f0⟩ := h2.one 0 rfl
        obtain ⟨c1, f1⟩ := h2.one 1 rfl
        obtain ⟨c2, f2⟩ := h2.one 2 rfl
        obtain ⟨c3, f3⟩ := h2.one 3 rfl
        go_wp2
        go_ret
        exact ⟨rfl, (h2.set 1 (.int .i64 (out + D)) (by simp [fdC])).set 2 (.bool true) (by simp [fdC]), (ob.setCell (p := ⟨b, 1, none⟩) _).setCell (p := ⟨b, 2, none⟩) _⟩
      · obtain rfl : len = 0 := by omega
        rw [show fdV 0 out v = v by unfold fdV; simp, show fdN 0 = 0 by decide]
        go_enter Try.func47, Try.ntmps47
        go_wp2_with fail
        refine (OG.out _).mono ?_
        rintro e w1 ⟨rfl, hb1⟩
        have h1 := h.bel hb1
        clear c0 c1 c2 c3 f0 f1 f2 f3 h OG
        obtain ⟨c0, f0⟩ := h1.one 0 rfl
        obtain ⟨c1, f1⟩ := h1.one 1 rfl
        obtain ⟨c2, f2⟩ := h1.one 2 rfl
        obtain ⟨c3, f3⟩ := h1.one 3 rfl
        go_wp2_with fail
        refine (oof_any _ _).mono ?_
        rintro e w2 ⟨rfl, hb2⟩
        have h2 := Held.bel (h1.set 3 (.int .i64 0) (by simp [fdC])) hb2
        have ob : Beside b w w2 := (Beside.of_below hb1).trans ((Beside.of_only ((Only.refl b w1).setCell (p := ⟨b, 3, none⟩) (.int .i64 0))).trans (Beside.of_below hb2))
        clear c0 c1 c2 c3 f0 f1 f2 f3
        obtain ⟨c0, f0⟩ := h2.one 0 rfl
        obtain ⟨c1, f1⟩ := h2.one 1 rfl
        obtain ⟨c2, f2⟩ := h2.one 2 rfl
        obtain ⟨c3, f3⟩ := h2.one 3 rfl
        go_wp2
        go_ret
        exact ⟨rfl, (h2.set 1 (.int .i64 (v)) (by simp [fdC])).set 2 (.bool true) (by simp [fdC]), (ob.setCell (p := ⟨b, 1, none⟩) _).setCell (p := ⟨b, 2, none⟩) _⟩
    · rw [show fdL len kn ch lf = lf by unfold fdL; cases ch <;> cases kn <;> simp at hq ⊢]
      by_cases hL : 0 < lf
      · have e : fdV lf out v = out + (v - out).tdiv lf := by unfold fdV; rw [if_pos hL]
        have bd := fdV_between lf out v
        rw [e] at bd ⊢
        rw [show fdN lf = lf - 1 by unfold fdN; rw [if_pos hL]]
        clear e
        have pb := part_bd (v - out) lf hL
        generalize hD : (v - out).tdiv lf = D at *
        have hw : IntKind.i64.wrap ((v - out).tdiv lf) = D := by rw [hD]; exact IntWalk.i64_in _ ⟨by omega, by omega⟩
        have hne : ¬ lf = 0 := by omega
        have hm1 : ¬ lf = -1 := by omega
        clear hD
        cases ch <;> cases kn <;> simp at hq
        all_goals
          go_enter Try.func47, Try.ntmps47
          go_wp2_with fail
          refine (OG.out _).mono ?_
          rintro e w1 ⟨rfl, hb1⟩
          have h1 := h.bel hb1
          clear c0 c1 c2 c3 f0 f1 f2 f3 h OG
          obtain ⟨c0, f0⟩ := h1.one 0 rfl
          obtain ⟨c1, f1⟩ := h1.one 1 rfl
          obtain ⟨c2, f2⟩ := h1.one 2 rfl
          obtain ⟨c3, f3⟩ := h1.one 3 rfl
          go_wp2_with fail
          refine (oof_any _ _).mono ?_
          rintro e w2 ⟨rfl, hb2⟩
          have h2 := Held.bel (h1.set 3 (.int .i64 (lf - 1)) (by simp [fdC])) hb2
          have ob : Beside b w w2 := (Beside.of_below hb1).trans ((Beside.of_only ((Only.refl b w1).setCell (p := ⟨b, 3, none⟩) (.int .i64 (lf - 1)))).trans (Beside.of_below hb2))
          clear c0 c1 c2 c3 f0 f1 f2 f3
          obtain ⟨c0, f0⟩ := h2.one 0 rfl
          obtain ⟨c1, f1⟩ := h2.one 1 rfl
          obtain ⟨c2, f2⟩ := h2.one 2 rfl
          obtain ⟨c3, f3⟩ := h2.one 3 rfl
          go_wp2
          go_ret
          exact ⟨rfl, (h2.set 1 (.int .i64 (out + D)) (by simp [fdC])).set 2 (.bool true) (by simp [fdC]), (ob.setCell (p := ⟨b, 1, none⟩) _).setCell (p := ⟨b, 2, none⟩) _⟩
      · obtain rfl : lf = 0 := by omega
        rw [show fdV 0 out v = v by unfold fdV; simp, show fdN 0 = 0 by decide]
        cases ch <;> cases kn <;> simp at hq
        all_goals
          go_enter Try.func47, Try.ntmps47
          go_wp2_with fail
          refine (OG.out _).mono ?_
          rintro e w1 ⟨rfl, hb1⟩
          have h1 := h.bel hb1
          clear c0 c1 c2 c3 f0 f1 f2 f3 h OG
          obtain ⟨c0, f0⟩ := h1.one 0 rfl
          obtain ⟨c1, f1⟩ := h1.one 1 rfl
          obtain ⟨c2, f2⟩ := h1.one 2 rfl
          obtain ⟨c3, f3⟩ := h1.one 3 rfl
          go_wp2_with fail
          refine (oof_any _ _).mono ?_
          rintro e w2 ⟨rfl, hb2⟩
          have h2 := Held.bel (h1) hb2
          have ob : Beside b w w2 := (Beside.of_below hb1).trans ((Beside.of_only (Only.refl b w1)).trans (Beside.of_below hb2))
          clear c0 c1 c2 c3 f0 f1 f2 f3
          obtain ⟨c0, f0⟩ := h2.one 0 rfl
          obtain ⟨c1, f1⟩ := h2.one 1 rfl
          obtain ⟨c2, f2⟩ := h2.one 2 rfl
          obtain ⟨c3, f3⟩ := h2.one 3 rfl
          go_wp2
          go_ret
          exact ⟨rfl, (h2.set 1 (.int .i64 (v)) (by simp [fdC])).set 2 (.bool true) (by simp [fdC]), (ob.setCell (p := ⟨b, 1, none⟩) _).setCell (p := ⟨b, 2, none⟩) _⟩
end Go.Proofs.Ytkchacjlddddjaa
