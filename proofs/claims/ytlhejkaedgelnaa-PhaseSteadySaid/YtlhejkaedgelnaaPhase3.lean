/- A follower of phases: its object and its methods; walked. -/
import Derived.Test.YtlhejkaedgelnaaPhase2
import Derived.BigRegion
import Derived.Deep.Cut
namespace Go.Proofs.Ytlhejkaedgelnaa
open Go.ChangeShapes Go.WideShapes Go.ChangeAt Go.RowKit
set_option linter.unusedVariables false
set_option linter.unusedSimpArgs false
def phC (pt : Int) (S : PhS) : List Value := [.int .i64 pt, .int .i64 S.p, .int .i64 S.a, .int .i64 S.n, .int .i64 (S.T 0), .int .i64 (S.T 1), .int .i64 (S.T 2), .int .i64 (S.T 3), .int .i64 (S.T 4), .int .i64 (S.T 5), .int .i64 S.hv, .bool S.hk, .int .i64 S.lg]
def phW (pt : Int) (S : PhS) (N : Int) : List Value := [.int .i64 pt, .int .i64 S.p, .int .i64 S.a, .int .i64 N, .int .i64 S.lg, .int .i64 (S.T 0), .int .i64 (S.T 1), .int .i64 (S.T 2), .int .i64 (S.T 3), .int .i64 (S.T 4), .int .i64 (S.T 5), .int .i64 S.hv, .bool S.hk]
theorem phC_at {pt : Int} {S : PhS} {b : Nat} {w : World} (h : Held b (phC pt S) w) {j : Nat} (hj : j ≤ 5) : w.cell? ⟨b, 4 + j, none⟩ = some (.int .i64 (S.T j)) ∧ w.frozen? ⟨b, 4 + j, none⟩ = false := by
  rcases (show j = 0 ∨ j = 1 ∨ j = 2 ∨ j = 3 ∨ j = 4 ∨ j = 5 by omega) with rfl | rfl | rfl | rfl | rfl | rfl
  · exact h.one 4 rfl
  · exact h.one 5 rfl
  · exact h.one 6 rfl
  · exact h.one 7 rfl
  · exact h.one 8 rfl
  · exact h.one 9 rfl
theorem phW_at {pt : Int} {S : PhS} {N : Int} {b : Nat} {w : World} (h : Held b (phW pt S N) w) {j : Nat} (hj : j ≤ 5) : w.cell? ⟨b, 5 + j, none⟩ = some (.int .i64 (S.T j)) ∧ w.frozen? ⟨b, 5 + j, none⟩ = false := by
  rcases (show j = 0 ∨ j = 1 ∨ j = 2 ∨ j = 3 ∨ j = 4 ∨ j = 5 by omega) with rfl | rfl | rfl | rfl | rfl | rfl
  · exact h.one 5 rfl
  · exact h.one 6 rfl
  · exact h.one 7 rfl
  · exact h.one 8 rfl
  · exact h.one 9 rfl
  · exact h.one 10 rfl
theorem phC_up (pt : Int) (S : PhS) {j : Nat} (hj : j ≤ 5) (x : Int) : (phC pt S).set (4 + j) (.int .i64 x) = phC pt { S with T := upd S.T j x } := by
  rcases (show j = 0 ∨ j = 1 ∨ j = 2 ∨ j = 3 ∨ j = 4 ∨ j = 5 by omega) with rfl | rfl | rfl | rfl | rfl | rfl <;> simp [phC, upd]
theorem phW_up (pt : Int) (S : PhS) (N : Int) {j : Nat} (hj : j ≤ 5) (x : Int) : (phW pt S N).set (5 + j) (.int .i64 x) = phW pt { S with T := upd S.T j x } N := by
  rcases (show j = 0 ∨ j = 1 ∨ j = 2 ∨ j = 3 ∨ j = 4 ∨ j = 5 by omega) with rfl | rfl | rfl | rfl | rfl | rfl <;> simp [phW, upd]
set_option maxRecDepth 100000 in
set_option maxHeartbeats 8000000 in
theorem pnew_no (pt : Int) (h : pt < 1 ∨ 1000 < pt) (w : World) : Calls Try.prog 51 #[.int .i64 pt] w fun e w' => e = .returned (.tuple #[.pointer none, .int .i64 2]) ∧ w = w' := by
  rcases (show pt < 1 ∨ (1 ≤ pt ∧ 1000 < pt) by omega) with g | ⟨g, g2⟩
  all_goals
    clear h
    go_enter Try.func51, Try.ntmps51
    go_wp2
    go_ret2
    exact ⟨rfl, rfl⟩
set_option maxRecDepth 100000 in
set_option maxHeartbeats 8000000 in
theorem pnew_ok (pt : Int) (h1 : 1 ≤ pt) (h2 : pt ≤ 1000) (w : World) : Calls Try.prog 51 #[.int .i64 pt] w fun e w' => ∃ b, w.heap.size ≤ b ∧ e = .returned (.tuple #[.pointer (some ⟨b, 0, none⟩), .int .i64 0]) ∧ Held b (phC pt phO) w' ∧ Below w.heap.size w w' := by
  go_enter Try.func51, Try.ntmps51
  go_wp2
  go_ret2
  exact ⟨w.heap.size, Nat.le_refl _, rfl, Held.new w (phC pt phO) _, (by repeat (first | exact Below.refl _ _ | assumption | apply Below.drew | apply below_drewN | (refine Below.alloc ?_ (by first | exact Nat.le_refl _ | omega | (simp <;> omega)) _) | (refine Below.setCell ?_ (by first | exact Nat.le_refl _ | omega | (simp <;> omega)) _)))⟩
set_option maxRecDepth 100000 in
set_option maxHeartbeats 8000000 in
theorem pphase (b : Nat) {pt : Int} {S : PhS} (w : World) (k : Held b (phC pt S) w) : Calls Try.prog 55 #[.pointer (some ⟨b, 0, none⟩)] w fun e w' => e = .returned (.int .i64 S.p) ∧ w = w' := by
  have c0 := k.c 1 _ rfl
  clear k
  go_enter Try.func55, Try.ntmps55
  go_wp2
  go_ret
  exact ⟨rfl, rfl⟩
set_option maxRecDepth 100000 in
set_option maxHeartbeats 8000000 in
theorem pphase_nil (w : World) : Calls Try.prog 55 #[.pointer none] w fun e w' => e = .returned (.int .i64 0) ∧ w = w' := by
  go_enter Try.func55, Try.ntmps55
  go_wp2
  go_ret
  exact ⟨rfl, rfl⟩
set_option maxRecDepth 100000 in
set_option maxHeartbeats 8000000 in
theorem plegs (b : Nat) {pt : Int} {S : PhS} (w : World) (k : Held b (phC pt S) w) : Calls Try.prog 57 #[.pointer (some ⟨b, 0, none⟩)] w fun e w' => e = .returned (.int .i64 S.lg) ∧ w = w' := by
  have c0 := k.c 12 _ rfl
  clear k
  go_enter Try.func57, Try.ntmps57
  go_wp2
  go_ret
  exact ⟨rfl, rfl⟩
set_option maxRecDepth 100000 in
set_option maxHeartbeats 8000000 in
theorem plegs_nil (w : World) : Calls Try.prog 57 #[.pointer none] w fun e w' => e = .returned (.int .i64 0) ∧ w = w' := by
  go_enter Try.func57, Try.ntmps57
  go_wp2
  go_ret
  exact ⟨rfl, rfl⟩
set_option maxRecDepth 100000 in
set_option maxHeartbeats 8000000 in
theorem ptimes (b : Nat) {pt : Int} {S : PhS} (w : World) (k : Held b (phC pt S) w) : Calls Try.prog 56 #[.pointer (some ⟨b, 0, none⟩)] w fun e w' => e = .returned (.agg #[.int .i64 (S.T 0), .int .i64 (S.T 1), .int .i64 (S.T 2), .int .i64 (S.T 3), .int .i64 (S.T 4), .int .i64 (S.T 5)]) ∧ Below w.heap.size w w' := by
  have hlt := k.lt
  have c0 := k.c 4 _ rfl
  have c1 := k.c 5 _ rfl
  have c2 := k.c 6 _ rfl
  have c3 := k.c 7 _ rfl
  have c4 := k.c 8 _ rfl
  have c5 := k.c 9 _ rfl
  clear k
  go_enter Try.func56, Try.ntmps56
  go_wp2
  exact bodyPost_ret (v := .agg #[.int .i64 (S.T 0), .int .i64 (S.T 1), .int .i64 (S.T 2), .int .i64 (S.T 3), .int .i64 (S.T 4), .int .i64 (S.T 5)]) (by simp [results, Try.results56, go_sem]) rfl ⟨rfl, (by repeat (first | exact Below.refl _ _ | assumption | apply Below.drew | apply below_drewN | (refine Below.alloc ?_ (by first | exact Nat.le_refl _ | omega | (simp <;> omega)) _) | (refine Below.setCell ?_ (by first | exact Nat.le_refl _ | omega | (simp <;> omega)) _)))⟩
set_option maxRecDepth 100000 in
set_option maxHeartbeats 8000000 in
theorem ptimes_nil (w : World) : Calls Try.prog 56 #[.pointer none] w fun e w' => e = .returned (.agg #[.int .i64 0, .int .i64 0, .int .i64 0, .int .i64 0, .int .i64 0, .int .i64 0]) ∧ Below w.heap.size w w' := by
  go_enter Try.func56, Try.ntmps56
  go_wp2
  exact bodyPost_ret (v := .agg #[.int .i64 0, .int .i64 0, .int .i64 0, .int .i64 0, .int .i64 0, .int .i64 0]) (by simp [results, Try.results56, go_sem]) rfl ⟨rfl, (by repeat (first | exact Below.refl _ _ | assumption | apply Below.drew | apply below_drewN | (refine Below.alloc ?_ (by first | exact Nat.le_refl _ | omega | (simp <;> omega)) _) | (refine Below.setCell ?_ (by first | exact Nat.le_refl _ | omega | (simp <;> omega)) _)))⟩
set_option maxRecDepth 100000 in
set_option maxHeartbeats 8000000 in
theorem oget_any (v : Int) (k : Bool) (w : World) : Calls Try.prog 85 #[.agg #[.int .i64 v, .bool k]] w fun e w' => e = .returned (.tuple #[.int .i64 v, .bool k]) ∧ Below w.heap.size w w' := by
  go_enter Try.func85, Try.ntmps85
  go_wp2_with fail
  go_quiet (fail)
  go_wp2
  go_ret2
  exact ⟨rfl, (by repeat (first | exact Below.refl _ _ | assumption | apply Below.drew | apply below_drewN | (refine Below.alloc ?_ (by first | exact Nat.le_refl _ | omega | (simp <;> omega)) _) | (refine Below.setCell ?_ (by first | exact Nat.le_refl _ | omega | (simp <;> omega)) _)))⟩
set_option maxRecDepth 100000 in
set_option maxHeartbeats 8000000 in
theorem oof_any (v : Int) (w : World) : Calls Try.prog 87 #[.int .i64 v] w fun e w' => e = .returned (.agg #[.int .i64 v, .bool true]) ∧ Below w.heap.size w w' := by
  go_enter Try.func87, Try.ntmps87
  go_wp2
  exact bodyPost_ret (v := .agg #[.int .i64 v, .bool true]) (by simp [results, Try.results87, go_sem]) rfl ⟨rfl, (by repeat (first | exact Below.refl _ _ | assumption | apply Below.drew | apply below_drewN | (refine Below.alloc ?_ (by first | exact Nat.le_refl _ | omega | (simp <;> omega)) _) | (refine Below.setCell ?_ (by first | exact Nat.le_refl _ | omega | (simp <;> omega)) _)))⟩
set_option maxRecDepth 100000 in
set_option maxHeartbeats 8000000 in
theorem phighest (b : Nat) {pt : Int} {S : PhS} (w : World) (k : Held b (phC pt S) w) : Calls Try.prog 53 #[.pointer (some ⟨b, 0, none⟩)] w fun e w' => e = .returned (.tuple #[.int .i64 S.hv, .bool S.hk]) ∧ Below w.heap.size w w' := by
  have c0 := k.c 10 _ rfl
  have c1 := k.c 11 _ rfl
  clear k
  go_enter Try.func53, Try.ntmps53
  go_wp2_with (go_at_call 85; refine (oget_any _ _ _).mono ?_; rintro e w1 ⟨rfl, hb1⟩)
  go_ret2
  exact ⟨rfl, hb1⟩
set_option maxRecDepth 100000 in
set_option maxHeartbeats 8000000 in
theorem phighest_nil (w : World) : Calls Try.prog 53 #[.pointer none] w fun e w' => e = .returned (.tuple #[.int .i64 0, .bool false]) ∧ w = w' := by
  go_enter Try.func53, Try.ntmps53
  go_wp2
  go_ret2
  exact ⟨rfl, rfl⟩
set_option maxRecDepth 100000 in
set_option maxHeartbeats 8000000 in
theorem preset_nil (w : World) : Calls Try.prog 52 #[.pointer none] w fun e w' => e = .returned (.tuple #[]) ∧ w = w' := by
  go_enter Try.func52, Try.ntmps52
  go_wp2
  go_end0
  exact ⟨rfl, rfl⟩
set_option maxRecDepth 100000 in
set_option maxHeartbeats 8000000 in
theorem pstep_nil (c h r : Int) (w : World) : Calls Try.prog 54 #[.pointer none, .agg #[.int .i64 c, .int .i64 h, .int .i64 r]] w fun e w' => e = .returned (.int .i64 0) ∧ Below w.heap.size w w' := by
  go_enter Try.func54, Try.ntmps54
  go_wp2
  go_ret
  exact ⟨rfl, (by repeat (first | exact Below.refl _ _ | assumption | apply Below.drew | apply below_drewN | (refine Below.alloc ?_ (by first | exact Nat.le_refl _ | omega | (simp <;> omega)) _) | (refine Below.setCell ?_ (by first | exact Nat.le_refl _ | omega | (simp <;> omega)) _)))⟩
set_option maxRecDepth 100000 in
set_option maxHeartbeats 8000000 in
theorem preset (b : Nat) {pt : Int} {S : PhS} (w : World) (k : Held b (phC pt S) w) : Calls Try.prog 52 #[.pointer (some ⟨b, 0, none⟩)] w fun e w' => e = .returned (.tuple #[]) ∧ Held b (phC pt phO) w' ∧ Beside b w w' := by
  obtain ⟨c0, f0⟩ := k.one 0 rfl
  obtain ⟨c1, f1⟩ := k.one 1 rfl
  obtain ⟨c2, f2⟩ := k.one 2 rfl
  obtain ⟨c3, f3⟩ := k.one 3 rfl
  obtain ⟨c4, f4⟩ := k.one 4 rfl
  obtain ⟨c5, f5⟩ := k.one 5 rfl
  obtain ⟨c6, f6⟩ := k.one 6 rfl
  obtain ⟨c7, f7⟩ := k.one 7 rfl
  obtain ⟨c8, f8⟩ := k.one 8 rfl
  obtain ⟨c9, f9⟩ := k.one 9 rfl
  obtain ⟨c10, f10⟩ := k.one 10 rfl
  obtain ⟨c11, f11⟩ := k.one 11 rfl
  obtain ⟨c12, f12⟩ := k.one 12 rfl
  go_enter Try.func52, Try.ntmps52
  go_wp2
  go_end0
  exact ⟨rfl, ((((((((((((((HB.start k).set 1 (.int .i64 0) (by simp [phC])).set 2 (.int .i64 0) (by simp [phC])).set 3 (.int .i64 0) (by simp [phC])).set 4 (.int .i64 0) (by simp [phC])).set 5 (.int .i64 0) (by simp [phC])).set 6 (.int .i64 0) (by simp [phC])).set 7 (.int .i64 0) (by simp [phC])).set 8 (.int .i64 0) (by simp [phC])).set 9 (.int .i64 0) (by simp [phC])).set 10 (.int .i64 0) (by simp [phC])).set 11 (.bool false) (by simp [phC])).set 12 (.int .i64 0) (by simp [phC])).is (show _ = phC pt phO from rfl)).fin rfl rfl rfl rfl⟩
set_option maxRecDepth 100000 in
set_option maxHeartbeats 8000000 in
theorem pins_same (b : Nat) {pt p a n : Int} {T : Nat → Int} {hv : Int} {hk : Bool} {lg : Int} (j : Int) (w : World) (k : Held b (phC pt ⟨p, a, n, T, hv, hk, lg⟩) w) (hp : j = p) (hn : 0 ≤ n ∧ n ≤ 2000) : Calls Try.prog 86 #[.pointer (some ⟨b, 0, none⟩), .int .i64 j] w fun e w' => e = .returned (.bool false) ∧ Held b (phC pt ⟨p, j, 0, T, hv, hk, lg⟩) w' ∧ Beside b w w' := by
  subst hp
  obtain ⟨c0, f0⟩ := k.one 0 rfl
  obtain ⟨c1, f1⟩ := k.one 1 rfl
  obtain ⟨c2, f2⟩ := k.one 2 rfl
  obtain ⟨c3, f3⟩ := k.one 3 rfl
  obtain ⟨c4, f4⟩ := k.one 4 rfl
  obtain ⟨c5, f5⟩ := k.one 5 rfl
  obtain ⟨c6, f6⟩ := k.one 6 rfl
  obtain ⟨c7, f7⟩ := k.one 7 rfl
  obtain ⟨c8, f8⟩ := k.one 8 rfl
  obtain ⟨c9, f9⟩ := k.one 9 rfl
  obtain ⟨c10, f10⟩ := k.one 10 rfl
  obtain ⟨c11, f11⟩ := k.one 11 rfl
  obtain ⟨c12, f12⟩ := k.one 12 rfl
  go_enter Try.func86, Try.ntmps86
  go_wp2
  go_ret
  exact ⟨rfl, (((((HB.start k).set 3 (.int .i64 0) (by simp [phC])).set 2 (.int .i64 j) (by simp [phC]))).is (show _ = phC pt ⟨j, j, 0, T, hv, hk, lg⟩ from rfl)).fin rfl rfl rfl rfl⟩
set_option maxRecDepth 100000 in
set_option maxHeartbeats 8000000 in
theorem pins_new (b : Nat) {pt p a n : Int} {T : Nat → Int} {hv : Int} {hk : Bool} {lg : Int} (j : Int) (w : World) (k : Held b (phC pt ⟨p, a, n, T, hv, hk, lg⟩) w) (hp : j ≠ p) (ha : j ≠ a) (hn : 0 ≤ n ∧ n ≤ 2000) : Calls Try.prog 86 #[.pointer (some ⟨b, 0, none⟩), .int .i64 j] w fun e w' => e = .returned (.bool (phQ p j || decide (pt ≤ 1))) ∧ Held b (phC pt ⟨p, j, 1, T, hv, hk, lg⟩) w' ∧ Beside b w w' := by
  obtain ⟨n0, n1⟩ := hn
  have hb2 := ((((HB.start k).set 3 (.int .i64 0) (by simp [phC])).set 2 (.int .i64 j) (by simp [phC])).set 3 (.int .i64 1) (by simp [phC])).is (show _ = phC pt ⟨p, j, 1, T, hv, hk, lg⟩ from rfl)
  have PS := fun u => psoon p j u
  obtain ⟨c0, f0⟩ := k.one 0 rfl
  obtain ⟨c1, f1⟩ := k.one 1 rfl
  obtain ⟨c2, f2⟩ := k.one 2 rfl
  obtain ⟨c3, f3⟩ := k.one 3 rfl
  obtain ⟨c4, f4⟩ := k.one 4 rfl
  obtain ⟨c5, f5⟩ := k.one 5 rfl
  obtain ⟨c6, f6⟩ := k.one 6 rfl
  obtain ⟨c7, f7⟩ := k.one 7 rfl
  obtain ⟨c8, f8⟩ := k.one 8 rfl
  obtain ⟨c9, f9⟩ := k.one 9 rfl
  obtain ⟨c10, f10⟩ := k.one 10 rfl
  obtain ⟨c11, f11⟩ := k.one 11 rfl
  obtain ⟨c12, f12⟩ := k.one 12 rfl
  have e1 : (j == p) = false := beq_eq_false_iff_ne.2 hp
  have e2 : (j == a) = false := beq_eq_false_iff_ne.2 ha
  have e3 : (j != a) = true := bne_iff_ne.2 ha
  clear ha
  replace PS := Lib.hid PS
  clear hp
  go_enter Try.func86, Try.ntmps86
  go_upto_region 8 with (fail)
  generalize eW : (((w.setCell ⟨b, 3, none⟩ (.int .i64 0)).setCell ⟨b, 2, none⟩ (.int .i64 j)).setCell ⟨b, 3, none⟩ (.int .i64 1)) = W at *
  have H2 := Lib.hid hb2
  have hh := hb2.held
  have q1 := hh.c 1 _ rfl
  have q3 := hh.c 3 _ rfl
  have q0 := hh.c 0 _ rfl
  clear hh hb2 eW k c0 c1 c2 c3 c4 c5 c6 c7 c8 c9 c10 c11 c12 f0 f1 f2 f3 f4 f5 f6 f7 f8 f9 f10 f11 f12
  cases hQ : phQ p j
  · rw [hQ] at PS
    go_quiet ((go_at_call 47; (with_reducible exact quiet_as _ rfl (PS.out _))))
    go_wp2
    go_ret
    exact ⟨rfl, H2.out.fin rfl rfl rfl rfl⟩
  · rw [hQ] at PS
    go_quiet ((go_at_call 47; (with_reducible exact quiet_as _ rfl (PS.out _))))
    go_wp2
    go_ret
    exact ⟨rfl, H2.out.fin rfl rfl rfl rfl⟩
set_option maxRecDepth 100000 in
set_option maxHeartbeats 8000000 in
theorem pins_on (b : Nat) {pt p a n : Int} {T : Nat → Int} {hv : Int} {hk : Bool} {lg : Int} (j : Int) (w : World) (k : Held b (phC pt ⟨p, a, n, T, hv, hk, lg⟩) w) (hp : j ≠ p) (ha : j = a) (hn : 0 ≤ n ∧ n ≤ 2000) : Calls Try.prog 86 #[.pointer (some ⟨b, 0, none⟩), .int .i64 j] w fun e w' => e = .returned (.bool (phQ p j || decide (pt ≤ n + 1))) ∧ Held b (phC pt ⟨p, j, (n + 1), T, hv, hk, lg⟩) w' ∧ Beside b w w' := by
  obtain ⟨n0, n1⟩ := hn
  have hb2 := (((HB.start k).set 2 (.int .i64 j) (by simp [phC])).set 3 (.int .i64 (n + 1)) (by simp [phC])).is (show _ = phC pt ⟨p, j, (n + 1), T, hv, hk, lg⟩ from rfl)
  have PS := fun u => psoon p j u
  obtain ⟨c0, f0⟩ := k.one 0 rfl
  obtain ⟨c1, f1⟩ := k.one 1 rfl
  obtain ⟨c2, f2⟩ := k.one 2 rfl
  obtain ⟨c3, f3⟩ := k.one 3 rfl
  obtain ⟨c4, f4⟩ := k.one 4 rfl
  obtain ⟨c5, f5⟩ := k.one 5 rfl
  obtain ⟨c6, f6⟩ := k.one 6 rfl
  obtain ⟨c7, f7⟩ := k.one 7 rfl
  obtain ⟨c8, f8⟩ := k.one 8 rfl
  obtain ⟨c9, f9⟩ := k.one 9 rfl
  obtain ⟨c10, f10⟩ := k.one 10 rfl
  obtain ⟨c11, f11⟩ := k.one 11 rfl
  obtain ⟨c12, f12⟩ := k.one 12 rfl
  have e1 : (j == p) = false := beq_eq_false_iff_ne.2 hp
  subst ha
  have ew : IntKind.i64.wrap (n + 1) = n + 1 := IntWalk.i64_in _ ⟨by omega, by omega⟩
  replace PS := Lib.hid PS
  clear hp
  go_enter Try.func86, Try.ntmps86
  go_upto_region 8 with (fail)
  generalize eW : ((w.setCell ⟨b, 2, none⟩ (.int .i64 j)).setCell ⟨b, 3, none⟩ (.int .i64 (n + 1))) = W at *
  have H2 := Lib.hid hb2
  have hh := hb2.held
  have q1 := hh.c 1 _ rfl
  have q3 := hh.c 3 _ rfl
  have q0 := hh.c 0 _ rfl
  clear hh hb2 eW k c0 c1 c2 c3 c4 c5 c6 c7 c8 c9 c10 c11 c12 f0 f1 f2 f3 f4 f5 f6 f7 f8 f9 f10 f11 f12
  cases hQ : phQ p j
  · rw [hQ] at PS
    go_quiet ((go_at_call 47; (with_reducible exact quiet_as _ rfl (PS.out _))))
    go_wp2
    go_ret
    exact ⟨rfl, H2.out.fin rfl rfl rfl rfl⟩
  · rw [hQ] at PS
    go_quiet ((go_at_call 47; (with_reducible exact quiet_as _ rfl (PS.out _))))
    go_wp2
    go_ret
    exact ⟨rfl, H2.out.fin rfl rfl rfl rfl⟩
end Go.Proofs.Ytlhejkaedgelnaa
