/- The law LagNew, walked. -/
import Derived.Test.YtkchacjlddddjaaLag3
namespace Go.Proofs.Ytkchacjlddddjaa
open Go.ChangeShapes Go.WideShapes Go.ChangeAt Go.RowKit
set_option linter.unusedVariables false
set_option linter.unusedSimpArgs false

set_option maxRecDepth 100000 in
set_option maxHeartbeats 2000000 in
theorem lwide_ok (n : Int) (w : World) (h0 : 1 ≤ n) (h1 : n ≤ 64) : Calls Try.prog 17 #[.int .i64 n] w fun e w' => ∃ b, w.heap.size ≤ b ∧ e = .returned (.tuple #[.pointer (some ⟨b, 0, none⟩), .int .i64 0]) ∧ Below w.heap.size w w' := by
  go_enter Try.func17, Try.ntmps17
  go_wp2
  go_ret2
  exact ⟨w.heap.size, Nat.le_refl _, rfl, (by repeat (first | exact Below.refl _ _ | assumption | apply Below.drew | apply below_drewN | (refine Below.alloc ?_ (by first | exact Nat.le_refl _ | omega | (simp <;> omega)) _) | (refine Below.setCell ?_ (by first | exact Nat.le_refl _ | omega | (simp <;> omega)) _)))⟩
set_option maxHeartbeats 400000 in
theorem lwide_no (n : Int) (w : World) (h : n < 1 ∨ 64 < n) : Calls Try.prog 17 #[.int .i64 n] w fun e w' => e = .returned (.tuple #[.pointer none, .int .i64 2]) ∧ w = w' := by
  rcases h with h | h
  all_goals
    go_enter Try.func17, Try.ntmps17
    go_wp2
    go_ret2
    exact ⟨rfl, rfl⟩
theorem lput_nil (x : Int) (w : World) : Calls Try.prog 19 #[.pointer none, .int .i64 x] w fun e w' => e = .returned (.tuple #[]) ∧ w = w' := by
  go_enter Try.func19, Try.ntmps19
  go_wp2
  refine bodyPost_ret (results_none rfl _ _ _) rfl ?_
  exact ⟨rfl, rfl⟩
theorem llen_nil (w : World) : Calls Try.prog 24 #[.pointer none] w fun e w' => e = .returned (.int .i64 0) ∧ w = w' := by
  go_enter Try.func24, Try.ntmps24
  go_wp2
  go_ret
  exact ⟨rfl, rfl⟩
set_option maxHeartbeats 1000000 in
theorem lmean_nil (w : World) : Calls Try.prog 21 #[.pointer none] w fun e w' => e = .returned (.tuple #[.int .i64 0, .bool false]) ∧ w = w' := by
  go_enter Try.func21, Try.ntmps21
  go_wp2_with (go_at_call 24; refine (llen_nil _).mono ?_; rintro e w1 ⟨rfl, rfl⟩)
  go_ret2
  exact ⟨rfl, rfl⟩
set_option maxHeartbeats 1000000 in
theorem lbounds_nil (w : World) : Calls Try.prog 22 #[.pointer none] w fun e w' => e = .returned (.tuple #[.int .i64 0, .int .i64 0, .bool false]) ∧ Below w.heap.size w w' := by
  go_enter Try.func22, Try.ntmps22
  go_wp2_with (go_at_call 24; refine (llen_nil _).mono ?_; rintro e w1 ⟨rfl, rfl⟩)
  (try simp only [Exit.inBlock, Exit.then])
  exact bodyPost_ret (v := .tuple #[.int .i64 0, .int .i64 0, .bool false]) (by simp [results, Try.results22, go_sem]) rfl ⟨rfl, (by repeat (first | exact Below.refl _ _ | assumption | apply Below.drew | apply below_drewN | (refine Below.alloc ?_ (by first | exact Nat.le_refl _ | omega | (simp <;> omega)) _) | (refine Below.setCell ?_ (by first | exact Nat.le_refl _ | omega | (simp <;> omega)) _)))⟩

theorem newok (sh : Int) (u : World) (h0 : 0 ≤ sh) (h1 : sh ≤ 16) : Calls Try.prog 16 #[.int .i64 sh] u fun e w' => ∃ b : Nat, e = .returned (.tuple #[.pointer (some ⟨b, 0, none⟩), .int .i64 0]) ∧ Below u.heap.size u w' := by
  refine (lgnew_ok sh u h0 h1).mono ?_
  rintro e w' ⟨b, hb, rfl, hq, hw⟩
  exact ⟨b, rfl, hw⟩
theorem newno (sh : Int) (u : World) (h : ¬ (0 ≤ sh ∧ sh ≤ 16)) : Calls Try.prog 16 #[.int .i64 sh] u fun e w' => ∃ b : Nat, e = .returned (.tuple #[.pointer none, .int .i64 2]) ∧ Below u.heap.size u w' := by
  refine (lgnew_no sh u h).mono ?_
  rintro e w' ⟨rfl, rfl⟩
  exact ⟨0, rfl, Below.refl _ _⟩
theorem wideok (n : Int) (u : World) (h0 : 1 ≤ n) (h1 : n ≤ 64) : Calls Try.prog 17 #[.int .i64 n] u fun e w' => ∃ b : Nat, e = .returned (.tuple #[.pointer (some ⟨b, 0, none⟩), .int .i64 0]) ∧ Below u.heap.size u w' := by
  refine (lwide_ok n u h0 h1).mono ?_
  rintro e w' ⟨b, hb, rfl, hw⟩
  exact ⟨b, rfl, hw⟩
theorem wideno (n : Int) (u : World) (h : n < 1 ∨ 64 < n) : Calls Try.prog 17 #[.int .i64 n] u fun e w' => ∃ b : Nat, e = .returned (.tuple #[.pointer none, .int .i64 2]) ∧ Below u.heap.size u w' := by
  refine (lwide_no n u h).mono ?_
  rintro e w' ⟨rfl, rfl⟩
  exact ⟨0, rfl, Below.refl _ _⟩
set_option maxRecDepth 100000 in
set_option maxHeartbeats 4000000 in
theorem law_LagNew (sh n x : Int) (w : World) :
    Calls Try.prog 3 #[.int .i64 sh, .int .i64 n, .int .i64 x] w fun e w' => e = .returned (.bool true) ∧ Below w.heap.size w w' := by
  have h1 : (0 ≤ sh ∧ sh ≤ 16) ∨ (sh < 0) ∨ (0 ≤ sh ∧ 16 < sh) := by omega
  have h2 : (1 ≤ n ∧ n ≤ 64) ∨ (n < 1) ∨ (1 ≤ n ∧ 64 < n) := by omega
  rcases h1 with ⟨a1, a2⟩ | a1 | ⟨a1, a2⟩ <;> rcases h2 with ⟨b1, b2⟩ | b1 | ⟨b1, b2⟩
  all_goals
    first
      | have NO := Lib.hid (fun u => newok sh u a1 a2)
      | have NO := Lib.hid (fun u => newno sh u (by omega))
    first
      | have WO := Lib.hid (fun u => wideok n u b1 b2)
      | have WO := Lib.hid (fun u => wideno n u (by omega))
    go_enter Try.func3, Try.ntmps3
    go_wp2_with fail
    refine (NO.out _).mono ?_
    rintro e w1 ⟨p1, rfl, hb1⟩
    go_wp2_with fail
    refine (WO.out _).mono ?_
    rintro e w2 ⟨p2, rfl, hb2⟩
    go_wp2_with (first | (go_at_call 18; refine (lgreset_nil _).mono ?_; rintro e w1 ⟨rfl, rfl⟩) | (go_at_call 19; refine (lput_nil _ _).mono ?_; rintro e w1 ⟨rfl, rfl⟩) | (go_at_call 20; refine (lgval_nil _).mono ?_; rintro e w1 ⟨rfl, rfl⟩) | (go_at_call 21; refine (lmean_nil _).mono ?_; rintro e w1 ⟨rfl, rfl⟩) | (go_at_call 22; refine (lbounds_nil _).mono ?_; rintro e w1 ⟨rfl, hb3⟩) | (go_at_call 23; refine (lgstep_nil _ _).mono ?_; rintro e w1 ⟨rfl, rfl⟩) | (go_at_call 24; refine (llen_nil _).mono ?_; rintro e w1 ⟨rfl, rfl⟩) | (go_at_call 25; refine (lives16 _).mono ?_; rintro e w1 ⟨rfl, hb4⟩))
    go_ret
    have g2 := hb1.trans (hb2.mono hb1.size)
    have g3 := g2.trans (hb3.mono g2.size)
    exact ⟨rfl, g3.trans (hb4.mono g3.size)⟩
end Go.Proofs.Ytkchacjlddddjaa
