/- The law BusNew; walked. -/
import Derived.Test.YtcpmdgbogdikiaaBus7
namespace Go.Proofs.Ytcpmdgbogdikiaa
open Go.ChangeShapes Go.WideShapes Go.ChangeAt Go.RowKit
set_option linter.unusedVariables false
set_option linter.unusedSimpArgs false
set_option maxRecDepth 100000 in
set_option maxHeartbeats 8000000 in
theorem law_BusNew (a : Option Addr) (cap n : Nat) (N P F : Nat → Int) (pa : Int) (aw : Option Addr) (m cw : Nat) (w : World) (h : Pl w a n N P F) (hcap : n ≤ cap) (hn : n ≤ maxLen) (hm : m ≤ maxLen) : Calls Try.prog 5 #[.slice a n cap, .int .i64 pa, .slice aw m cw] w fun e w' => e = .returned (.bool true) ∧ Below w.heap.size w w' := by
  have LV := Lib.hid (fun u => lives46 u)
  have hw := Lib.hid (Below.refl w.heap.size w)
  have HH := Lib.hid (fun u (k : Below w.heap.size w u) => h.below k)
  have hn' : (n : Int) ≤ 9223372036854775807 := by unfold maxLen at hn; omega
  have hm' : (m : Int) ≤ 9223372036854775807 := by unfold maxLen at hm; omega
  by_cases q : 300 < n
  · have q1 : (300 : Int) < (n : Int) := by omega
    have q2 : decide ((300 : Int) < (n : Int)) = true := decide_eq_true q1
    go_enter Try.func5, Try.ntmps5
    go_wp2_with fail
    refine (LV.out _).mono ?_
    rintro e u9 ⟨rfl, hb9⟩
    have hb8 := Lib.hid (show Below w.heap.size w u9 from hw.out.trans (hb9.mono hw.out.size))
    clear hb9
    go_wp2
    go_ret
    exact ⟨rfl, hb8.out⟩
  have q1 : ¬ (300 : Int) < (n : Int) := by omega
  have q2 : decide ((300 : Int) < (n : Int)) = false := decide_eq_false q1
  by_cases q0 : 300 < m
  · have q3 : (300 : Int) < (m : Int) := by omega
    have q4 : decide ((300 : Int) < (m : Int)) = true := decide_eq_true q3
    go_enter Try.func5, Try.ntmps5
    go_wp2_with fail
    refine (LV.out _).mono ?_
    rintro e u9 ⟨rfl, hb9⟩
    have hb8 := Lib.hid (show Below w.heap.size w u9 from hw.out.trans (hb9.mono hw.out.size))
    clear hb9
    go_wp2
    go_ret
    exact ⟨rfl, hb8.out⟩
  have q3 : ¬ (300 : Int) < (m : Int) := by omega
  have q4 : decide ((300 : Int) < (m : Int)) = false := decide_eq_false q3
  have LR := Lib.hid (fun u (k : Below w.heap.size w u) => lright a cap n N P F u (HH.out u k) (by omega))
  obtain ⟨p, ep⟩ : ∃ p, rtB n N P F = p := ⟨_, rfl⟩
  replace LR := LR.out
  rw [ep] at LR
  replace LR := Lib.hid LR
  cases p
  · skip
    by_cases z1 : pa < 1
    · have y1 : decide (pa < 1) = true := decide_eq_true z1
      have NW := Lib.hid (bnew_no a cap n N P F pa w h hcap (by omega) ep)
      clear h hcap
      go_enter Try.func5, Try.ntmps5
      go_wp2_with fail
      refine NW.out.mono ?_
      rintro e w2 ⟨rfl, hb⟩
      have h2 := Lib.hid hb
      clear hb NW
      go_wp2_with fail
      refine (bword0 _ _).mono ?_
      rintro e u1 ⟨rfl, rfl⟩
      go_wp2_with fail
      refine (bstep0 _ _ _ _).mono ?_
      rintro e u1 ⟨rfl, rfl⟩
      go_wp2_with fail
      refine (bmiss0 _).mono ?_
      rintro e u1 ⟨rfl, rfl⟩
      go_wp2_with fail
      refine (btick0 _).mono ?_
      rintro e u1 ⟨rfl, rfl⟩
      go_wp2_with fail
      refine (LR.out w2 h2.out).mono ?_
      rintro e w3 ⟨rfl, hb⟩
      have h3 := Lib.hid (show Below w.heap.size w w3 from h2.out.trans (hb.mono h2.out.size))
      clear hb
      go_wp2_with fail
      refine (LV.out _).mono ?_
      rintro e u9 ⟨rfl, hb9⟩
      have hb8 := Lib.hid (show Below w.heap.size w u9 from h3.out.trans (hb9.mono h3.out.size))
      clear hb9
      go_wp2
      go_ret
      exact ⟨rfl, hb8.out⟩
    · have y1 : decide (pa < 1) = false := decide_eq_false z1
      by_cases z2 : (10 : Int) < pa
      · have y2 : decide ((10 : Int) < pa) = true := decide_eq_true z2
        have NW := Lib.hid (bnew_no a cap n N P F pa w h hcap (by omega) ep)
        clear h hcap
        go_enter Try.func5, Try.ntmps5
        go_wp2_with fail
        refine NW.out.mono ?_
        rintro e w2 ⟨rfl, hb⟩
        have h2 := Lib.hid hb
        clear hb NW
        go_wp2_with fail
        refine (bword0 _ _).mono ?_
        rintro e u1 ⟨rfl, rfl⟩
        go_wp2_with fail
        refine (bstep0 _ _ _ _).mono ?_
        rintro e u1 ⟨rfl, rfl⟩
        go_wp2_with fail
        refine (bmiss0 _).mono ?_
        rintro e u1 ⟨rfl, rfl⟩
        go_wp2_with fail
        refine (btick0 _).mono ?_
        rintro e u1 ⟨rfl, rfl⟩
        go_wp2_with fail
        refine (LR.out w2 h2.out).mono ?_
        rintro e w3 ⟨rfl, hb⟩
        have h3 := Lib.hid (show Below w.heap.size w w3 from h2.out.trans (hb.mono h2.out.size))
        clear hb
        go_wp2_with fail
        refine (LV.out _).mono ?_
        rintro e u9 ⟨rfl, hb9⟩
        have hb8 := Lib.hid (show Below w.heap.size w u9 from h3.out.trans (hb9.mono h3.out.size))
        clear hb9
        go_wp2
        go_ret
        exact ⟨rfl, hb8.out⟩
      · have y2 : decide ((10 : Int) < pa) = false := decide_eq_false z2
        have NW := Lib.hid (bnew_no a cap n N P F pa w h hcap (by omega) ep)
        clear h hcap
        go_enter Try.func5, Try.ntmps5
        go_wp2_with fail
        refine NW.out.mono ?_
        rintro e w2 ⟨rfl, hb⟩
        have h2 := Lib.hid hb
        clear hb NW
        go_wp2_with fail
        refine (bword0 _ _).mono ?_
        rintro e u1 ⟨rfl, rfl⟩
        go_wp2_with fail
        refine (bstep0 _ _ _ _).mono ?_
        rintro e u1 ⟨rfl, rfl⟩
        go_wp2_with fail
        refine (bmiss0 _).mono ?_
        rintro e u1 ⟨rfl, rfl⟩
        go_wp2_with fail
        refine (btick0 _).mono ?_
        rintro e u1 ⟨rfl, rfl⟩
        go_wp2_with fail
        refine (LR.out w2 h2.out).mono ?_
        rintro e w3 ⟨rfl, hb⟩
        have h3 := Lib.hid (show Below w.heap.size w w3 from h2.out.trans (hb.mono h2.out.size))
        clear hb
        go_wp2_with fail
        refine (LV.out _).mono ?_
        rintro e u9 ⟨rfl, hb9⟩
        have hb8 := Lib.hid (show Below w.heap.size w u9 from h3.out.trans (hb9.mono h3.out.size))
        clear hb9
        go_wp2
        go_ret
        exact ⟨rfl, hb8.out⟩
  · by_cases z1 : pa < 1
    · have y1 : decide (pa < 1) = true := decide_eq_true z1
      have NW := Lib.hid (bnew_bad a cap n N P F pa w h hcap (by omega) ep (by omega))
      clear h hcap
      go_enter Try.func5, Try.ntmps5
      go_wp2_with fail
      refine NW.out.mono ?_
      rintro e w2 ⟨rfl, hb⟩
      have h2 := Lib.hid hb
      clear hb NW
      go_wp2_with fail
      refine (bword0 _ _).mono ?_
      rintro e u1 ⟨rfl, rfl⟩
      go_wp2_with fail
      refine (bstep0 _ _ _ _).mono ?_
      rintro e u1 ⟨rfl, rfl⟩
      go_wp2_with fail
      refine (bmiss0 _).mono ?_
      rintro e u1 ⟨rfl, rfl⟩
      go_wp2_with fail
      refine (btick0 _).mono ?_
      rintro e u1 ⟨rfl, rfl⟩
      go_wp2_with fail
      refine (LR.out w2 h2.out).mono ?_
      rintro e w3 ⟨rfl, hb⟩
      have h3 := Lib.hid (show Below w.heap.size w w3 from h2.out.trans (hb.mono h2.out.size))
      clear hb
      go_wp2_with fail
      refine (LV.out _).mono ?_
      rintro e u9 ⟨rfl, hb9⟩
      have hb8 := Lib.hid (show Below w.heap.size w u9 from h3.out.trans (hb9.mono h3.out.size))
      clear hb9
      go_wp2
      go_ret
      exact ⟨rfl, hb8.out⟩
    · have y1 : decide (pa < 1) = false := decide_eq_false z1
      by_cases z2 : (10 : Int) < pa
      · have y2 : decide ((10 : Int) < pa) = true := decide_eq_true z2
        have NW := Lib.hid (bnew_bad a cap n N P F pa w h hcap (by omega) ep (by omega))
        clear h hcap
        go_enter Try.func5, Try.ntmps5
        go_wp2_with fail
        refine NW.out.mono ?_
        rintro e w2 ⟨rfl, hb⟩
        have h2 := Lib.hid hb
        clear hb NW
        go_wp2_with fail
        refine (bword0 _ _).mono ?_
        rintro e u1 ⟨rfl, rfl⟩
        go_wp2_with fail
        refine (bstep0 _ _ _ _).mono ?_
        rintro e u1 ⟨rfl, rfl⟩
        go_wp2_with fail
        refine (bmiss0 _).mono ?_
        rintro e u1 ⟨rfl, rfl⟩
        go_wp2_with fail
        refine (btick0 _).mono ?_
        rintro e u1 ⟨rfl, rfl⟩
        go_wp2_with fail
        refine (LR.out w2 h2.out).mono ?_
        rintro e w3 ⟨rfl, hb⟩
        have h3 := Lib.hid (show Below w.heap.size w w3 from h2.out.trans (hb.mono h2.out.size))
        clear hb
        go_wp2_with fail
        refine (LV.out _).mono ?_
        rintro e u9 ⟨rfl, hb9⟩
        have hb8 := Lib.hid (show Below w.heap.size w u9 from h3.out.trans (hb9.mono h3.out.size))
        clear hb9
        go_wp2
        go_ret
        exact ⟨rfl, hb8.out⟩
      · have y2 : decide ((10 : Int) < pa) = false := decide_eq_false z2
        have hr := of_decide_eq_true ep
        obtain ⟨b, off, ea, -, -, -, -⟩ := h.at (show 0 < n by omega)
        subst ea
        have HS := Lib.hid (fun i (hi : i < n) => (hr.2.2 i hi).1)
        have hn2 : n ≤ 32 := by omega
        have NW := Lib.hid (bnew_ok b off cap n N P F pa w h hcap ep (by omega))
        have PA := Lib.hid (show 1 ≤ pa ∧ pa ≤ 10 by omega)
        clear h hcap hr
        go_enter Try.func5, Try.ntmps5
        go_wp2_with fail
        refine NW.out.mono ?_
        rintro e w2 ⟨p, q, g, tc, rfl, hW⟩
        have h2 := Lib.hid hW.b
        have hW := Lib.hid hW.r
        clear NW
        go_wp2_with fail
        refine (bword0 _ _).mono ?_
        rintro e u1 ⟨rfl, rfl⟩
        go_wp2_with fail
        refine (bstep0 _ _ _ _).mono ?_
        rintro e u1 ⟨rfl, rfl⟩
        go_wp2_with fail
        refine (bmiss0 _).mono ?_
        rintro e u1 ⟨rfl, rfl⟩
        go_wp2_with fail
        refine (btick0 _).mono ?_
        rintro e u1 ⟨rfl, rfl⟩
        go_wp2_with fail
        refine (LR.out w2 h2.out).mono ?_
        rintro e w3 ⟨rfl, hb⟩
        have h3 := Lib.hid (show Below w.heap.size w w3 from h2.out.trans (hb.mono h2.out.size))
        have hW3 := Lib.hid (hW.out.bel hb)
        clear hb hW
        have TK := Lib.hid (btick w3 hW3.out)
        have MS := Lib.hid (bmissn w3 hW3.out hn2 PA.out (by omega) HS.out (fun i hi => by have s := of_decide_eq_true (HS.out i hi); have := Int.mul_le_mul PA.out.1 s.2.2.1 (by omega) (by have := PA.out; omega); refine ⟨by omega, by omega, ?_⟩; show (0 : Int) - 0 < pa * P i; omega))
        go_wp2_with fail
        refine TK.out.mono ?_
        rintro e w4 ⟨rfl, rfl⟩
        go_wp2_with fail
        refine MS.out.mono ?_
        rintro e w4 ⟨rfl, hb⟩
        have h4 := Lib.hid (show Below w.heap.size w w4 from h3.out.trans (hb.mono h3.out.size))
        clear hb MS TK hW3
        go_wp2_with fail
        refine (LV.out _).mono ?_
        rintro e u9 ⟨rfl, hb9⟩
        have hb8 := Lib.hid (show Below w.heap.size w u9 from h4.out.trans (hb9.mono h4.out.size))
        clear hb9
        go_wp2
        go_ret
        exact ⟨rfl, hb8.out⟩
end Go.Proofs.Ytcpmdgbogdikiaa
