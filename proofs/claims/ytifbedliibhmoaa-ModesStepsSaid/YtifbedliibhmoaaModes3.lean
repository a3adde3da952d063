/- modes.Step, walked. -/
import Derived.Test.YtifbedliibhmoaaModes2
namespace Go.Proofs.Ytifbedliibhmoaa
open Go.ChangeShapes Go.WideShapes Go.ChangeAt Go.RowKit
set_option linter.unusedVariables false

set_option maxHeartbeats 1000000 in
theorem mstep_any (b : Nat) {p md n c : Int} (wm a bb s d : Bool) (w : World) (h : Held b (mdC p md n c) w) (hp : p ≤ 10000) (n0 : 0 ≤ n) (np : n < p) (cc0 : 0 ≤ c) (cc1 : c < 4611686018427387904) :
    Calls Try.prog 45 #[.pointer (some ⟨b, 0, none⟩), .agg #[.bool wm, .bool a, .bool bb, .bool s, .bool d]] w fun e w' => e = .returned (.int .i64 (msM p md n (askd wm a bb s d) s)) ∧
      Held b (mdC p (msM p md n (askd wm a bb s d) s) (msN p md n (askd wm a bb s d) s) (msC p md n c (askd wm a bb s d) s)) w' ∧ Beside b w w' := by
  have AS := Lib.hid (fun v => asked_any wm a bb s d v)
  generalize askd wm a bb s d = k at *
  have PR := Lib.hid (fun v => probes_any k v)
  have hx0 := h.alloc (.cells #[.bool wm, .bool a, .bool bb, .bool s, .bool d] 77)
  have hne : b ≠ w.heap.size := by have := h.lt; omega
  have bx0 : Beside b w (w.alloc (.cells #[.bool wm, .bool a, .bool bb, .bool s, .bool d] 77)) := .of_below ((Below.refl _ _).alloc (Nat.le_refl _) _)
  go_enter Try.func45, Try.ntmps45
  go_wp2_with fail
  refine (AS.out _).mono ?_
  rintro e w1 ⟨rfl, hb1⟩
  have hx := hx0.bel hb1
  have bx := bx0.trans (.of_below hb1)
  have hq : Held w.heap.size [.bool wm, .bool a, .bool bb, .bool s, .bool d] w1 := (Held.new w [.bool wm, .bool a, .bool bb, .bool s, .bool d] 77).bel hb1
  clear hb1 AS h hx0 bx0
  obtain ⟨c0, f0⟩ := hx.one 0 rfl
  obtain ⟨c1, f1⟩ := hx.one 1 rfl
  obtain ⟨c2, f2⟩ := hx.one 2 rfl
  obtain ⟨c3, f3⟩ := hx.one 3 rfl
  obtain ⟨q0, g0⟩ := hq.one 0 rfl
  obtain ⟨q1, g1⟩ := hq.one 1 rfl
  obtain ⟨q2, g2⟩ := hq.one 2 rfl
  obtain ⟨q3, g3⟩ := hq.one 3 rfl
  obtain ⟨q4, g4⟩ := hq.one 4 rfl
  have e1 : IntKind.i64.wrap (n + 1) = n + 1 := IntWalk.i64_in _ ⟨by omega, by omega⟩
  cases h1 : (md == 4)
  · -- it does not wait
    cases h5 : (k == md)
    · have h6 : (k != md) = true := by simp [bne, h5]
      go_wp2_with (go_at_call 81; refine (aadd64 _ _ _ _ c3 f3 (by omega) (by omega)).mono ?_; rintro e w1 ⟨rfl, rfl⟩)
      go_ret
      have hW : msW p md n k s = false := by unfold msW; rw [h1]; rfl
      rw [show msM p md n k s = k by unfold msM; rw [hW]; rfl, show msN p md n k s = 0 by unfold msN; rw [hW]; rfl, show msC p md n c k s = c + 1 by unfold msC; rw [hW, h5]; rfl]
      exact ⟨rfl, (((hx.set 3 (.int .i64 (c + 1)) (by simp [mdC])).set 1 (.int .i64 k) (by simp [mdC])).set 2 (.int .i64 0) (by simp [mdC])).as rfl, (((bx.setCell (p := ⟨b, 3, none⟩) (.int .i64 (c + 1))).setCell (p := ⟨b, 1, none⟩) (.int .i64 k)).setCell (p := ⟨b, 2, none⟩) (.int .i64 0)).as rfl rfl rfl rfl⟩
    · have h6 : (k != md) = false := by simp [bne, h5]
      go_wp2
      go_ret
      have hW : msW p md n k s = false := by unfold msW; rw [h1]; rfl
      rw [show msM p md n k s = k by unfold msM; rw [hW]; rfl, show msN p md n k s = 0 by unfold msN; rw [hW]; rfl, show msC p md n c k s = c by unfold msC; rw [hW, h5]; rfl]
      exact ⟨rfl, ((hx.set 1 (.int .i64 k) (by simp [mdC])).set 2 (.int .i64 0) (by simp [mdC])).as rfl, ((bx.setCell (p := ⟨b, 1, none⟩) (.int .i64 k)).setCell (p := ⟨b, 2, none⟩) (.int .i64 0)).as rfl rfl rfl rfl⟩
  · cases s
    · clear PR
      cases h5 : (k == md)
      · have h6 : (k != md) = true := by simp [bne, h5]
        go_wp2_with (go_at_call 81; refine (aadd64 _ _ _ _ c3 f3 (by omega) (by omega)).mono ?_; rintro e w1 ⟨rfl, rfl⟩)
        go_ret
        have hW : msW p md n k false = false := by unfold msW; rw [h1]; rfl
        rw [show msM p md n k false = k by unfold msM; rw [hW]; rfl, show msN p md n k false = 0 by unfold msN; rw [hW]; rfl, show msC p md n c k false = c + 1 by unfold msC; rw [hW, h5]; rfl]
        exact ⟨rfl, (((hx.set 3 (.int .i64 (c + 1)) (by simp [mdC])).set 1 (.int .i64 k) (by simp [mdC])).set 2 (.int .i64 0) (by simp [mdC])).as rfl, (((bx.setCell (p := ⟨b, 3, none⟩) (.int .i64 (c + 1))).setCell (p := ⟨b, 1, none⟩) (.int .i64 k)).setCell (p := ⟨b, 2, none⟩) (.int .i64 0)).as rfl rfl rfl rfl⟩
      · have h6 : (k != md) = false := by simp [bne, h5]
        go_wp2
        go_ret
        have hW : msW p md n k false = false := by unfold msW; rw [h1]; rfl
        rw [show msM p md n k false = k by unfold msM; rw [hW]; rfl, show msN p md n k false = 0 by unfold msN; rw [hW]; rfl, show msC p md n c k false = c by unfold msC; rw [hW, h5]; rfl]
        exact ⟨rfl, ((hx.set 1 (.int .i64 k) (by simp [mdC])).set 2 (.int .i64 0) (by simp [mdC])).as rfl, ((bx.setCell (p := ⟨b, 1, none⟩) (.int .i64 k)).setCell (p := ⟨b, 2, none⟩) (.int .i64 0)).as rfl rfl rfl rfl⟩
    · cases hpk : prb k
      · rw [hpk] at PR
        cases h5 : (k == md)
        · have h6 : (k != md) = true := by simp [bne, h5]
          go_wp2_with (first | (go_at_call 80; refine (PR.out _).mono ?_; rintro e w1 ⟨rfl, rfl⟩) | (go_at_call 81; refine (aadd64 _ _ _ _ c3 f3 (by omega) (by omega)).mono ?_; rintro e w1 ⟨rfl, rfl⟩))
          go_ret
          have hW : msW p md n k true = false := by unfold msW; rw [h1, hpk]; rfl
          rw [show msM p md n k true = k by unfold msM; rw [hW]; rfl, show msN p md n k true = 0 by unfold msN; rw [hW]; rfl, show msC p md n c k true = c + 1 by unfold msC; rw [hW, h5]; rfl]
          exact ⟨rfl, (((hx.set 3 (.int .i64 (c + 1)) (by simp [mdC])).set 1 (.int .i64 k) (by simp [mdC])).set 2 (.int .i64 0) (by simp [mdC])).as rfl, (((bx.setCell (p := ⟨b, 3, none⟩) (.int .i64 (c + 1))).setCell (p := ⟨b, 1, none⟩) (.int .i64 k)).setCell (p := ⟨b, 2, none⟩) (.int .i64 0)).as rfl rfl rfl rfl⟩
        · have h6 : (k != md) = false := by simp [bne, h5]
          go_wp2_with (go_at_call 80; refine (PR.out _).mono ?_; rintro e w1 ⟨rfl, rfl⟩)
          go_ret
          have hW : msW p md n k true = false := by unfold msW; rw [h1, hpk]; rfl
          rw [show msM p md n k true = k by unfold msM; rw [hW]; rfl, show msN p md n k true = 0 by unfold msN; rw [hW]; rfl, show msC p md n c k true = c by unfold msC; rw [hW, h5]; rfl]
          exact ⟨rfl, ((hx.set 1 (.int .i64 k) (by simp [mdC])).set 2 (.int .i64 0) (by simp [mdC])).as rfl, ((bx.setCell (p := ⟨b, 1, none⟩) (.int .i64 k)).setCell (p := ⟨b, 2, none⟩) (.int .i64 0)).as rfl rfl rfl rfl⟩
      · rw [hpk] at PR
        have hmd : md = 4 := eq_of_beq h1
        have h5 : (k == md) = false := by
          cases h5 : (k == md)
          · rfl
          · have : k = 4 := by rw [eq_of_beq h5]; exact hmd
            subst this
            simp [prb] at hpk
        have h6 : (k != md) = true := by simp [bne, h5]
        have hy := fun nq => (hx.set 2 (.int .i64 (n + 1)) (by simp [mdC])).drewN nq
        have yy := fun nq : Nat => (bx.setCell (p := ⟨b, 2, none⟩) (.int .i64 (n + 1))).as (v' := (w1.setCell ⟨b, 2, none⟩ (.int .i64 (n + 1))).drewN nq) rfl rfl rfl rfl
        cases h4 : decide (n + 1 < p)
        · go_wp2_with (go_at_call 80; refine (PR.out _).mono ?_; rintro e w1 ⟨rfl, rfl⟩)
          go_quiet (fail)
          have hx' := hy nq
          have bx' := yy nq
          clear c0 c1 c2 c3 f0 f1 f2 f3 hy yy hx bx
          have hx := hx'
          have bx := bx'
          clear hx' bx'
          generalize (w1.setCell ⟨b, 2, none⟩ (.int .i64 (n + 1))).drewN nq = v at *
          obtain ⟨c0, f0⟩ := hx.one 0 rfl
          obtain ⟨c1, f1⟩ := hx.one 1 rfl
          obtain ⟨c2, f2⟩ := hx.one 2 rfl
          obtain ⟨c3, f3⟩ := hx.one 3 rfl
          go_wp2_with (go_at_call 81; refine (aadd64 _ _ _ _ c3 f3 (by omega) (by omega)).mono ?_; rintro e w1 ⟨rfl, rfl⟩)
          go_ret
          have hW : msW p md n k true = false := by unfold msW; rw [h1, hpk, h4]; rfl
          rw [show msM p md n k true = k by unfold msM; rw [hW]; rfl, show msN p md n k true = 0 by unfold msN; rw [hW]; rfl, show msC p md n c k true = c + 1 by unfold msC; rw [hW, h5]; rfl]
          exact ⟨rfl, (((hx.set 3 (.int .i64 (c + 1)) (by simp [mdC])).set 1 (.int .i64 k) (by simp [mdC])).set 2 (.int .i64 0) (by simp [mdC])).as rfl, (((bx.setCell (p := ⟨b, 3, none⟩) (.int .i64 (c + 1))).setCell (p := ⟨b, 1, none⟩) (.int .i64 k)).setCell (p := ⟨b, 2, none⟩) (.int .i64 0)).as rfl rfl rfl rfl⟩
        · go_wp2_with (go_at_call 80; refine (PR.out _).mono ?_; rintro e w1 ⟨rfl, rfl⟩)
          go_quiet (fail)
          have hx := hy nq
          have bx := yy nq
          go_wp2
          go_ret
          have hW : msW p md n k true = true := by unfold msW; rw [h1, hpk, h4]; rfl
          rw [show msM p md n k true = 4 by unfold msM; rw [hW]; rfl, show msN p md n k true = n + 1 by unfold msN; rw [hW]; rfl, show msC p md n c k true = c by unfold msC; rw [hW]; rfl]
          refine ⟨rfl, ?_, bx⟩
          rw [hmd] at hx
          exact hx
end Go.Proofs.Ytifbedliibhmoaa
