/- The document's tally, walked. -/
import Derived.Test.YtifbedliibhmoaaTally
namespace Go.Proofs.Ytifbedliibhmoaa
open Go.ChangeShapes Go.WideShapes Go.ChangeAt Go.RowKit
set_option linter.unusedVariables false

set_option maxHeartbeats 1000000 in
theorem rtstep_any (b : Nat) {u d s m n : Int} {l : Bool} (bad : Bool) (w : World) (h : Held b (tlC u d s m n l) w) (ok : TlOk u d s m) (h0 : 0 ≤ n) (hm : n ≤ m) :
    Calls Try.prog 32 #[.pointer (some ⟨b, 0, none⟩), .bool bad] w fun e w' => e = .returned (.bool (l || decide (s ≤ tnx u d m n bad))) ∧ Held b (tlC u d s m (tnx u d m n bad) (l || decide (s ≤ tnx u d m n bad))) w' ∧ Only b w w' := by
  obtain ⟨u1, u2, d1, d2, s1, s2, m1, m2⟩ := ok
  have e1 : IntKind.i64.wrap (n + u) = n + u := IntWalk.i64_in _ ⟨by omega, by omega⟩
  have e2 : IntKind.i64.wrap (n - d) = n - d := IntWalk.i64_in _ ⟨by omega, by omega⟩
  obtain ⟨c0, f0⟩ := h.one 0 rfl
  obtain ⟨c1, f1⟩ := h.one 1 rfl
  obtain ⟨c2, f2⟩ := h.one 2 rfl
  obtain ⟨c3, f3⟩ := h.one 3 rfl
  obtain ⟨c4, f4⟩ := h.one 4 rfl
  obtain ⟨c5, f5⟩ := h.one 5 rfl
  go_enter Try.func32, Try.ntmps32
  cases l
  all_goals
    cases bad
    · by_cases hc : 0 ≤ n - d
      · have en : tnx u d m n false = n - d := by unfold tnx; simp; omega
        rw [en]
        clear en
        cases hs : decide (s ≤ n - d)
        all_goals
          go_wp2_with fail
          go_region
          go_wp2_with fail
          go_region
          go_wp2
          go_ret
          first | exact ⟨rfl, ((h.set 4 (.int .i64 (n - d)) (by simp [tlC])).set 5 (.bool true) (by simp [tlC])).as rfl, (((Only.refl b w).setCell (p := ⟨b, 4, none⟩) (.int .i64 (n - d))).setCell (p := ⟨b, 5, none⟩) (.bool true)).as rfl rfl rfl rfl⟩ | exact ⟨rfl, ((h.set 4 (.int .i64 (n - d)) (by simp [tlC])).set 5 (.bool false) (by simp [tlC])).as rfl, (((Only.refl b w).setCell (p := ⟨b, 4, none⟩) (.int .i64 (n - d))).setCell (p := ⟨b, 5, none⟩) (.bool false)).as rfl rfl rfl rfl⟩
      · have en : tnx u d m n false = 0 := by unfold tnx; simp; omega
        rw [en]
        clear en
        have hs : decide (s ≤ 0) = false := decide_eq_false (by omega)
        go_wp2_with fail
        go_region
        go_wp2_with fail
        go_region
        go_wp2
        go_ret
        rw [hs]
        first | exact ⟨rfl, (((h.set 4 (.int .i64 (n - d)) (by simp [tlC])).set 4 (.int .i64 (0)) (by simp [tlC])).set 5 (.bool true) (by simp [tlC])).as rfl, ((((Only.refl b w).setCell (p := ⟨b, 4, none⟩) (.int .i64 (n - d))).setCell (p := ⟨b, 4, none⟩) (.int .i64 (0))).setCell (p := ⟨b, 5, none⟩) (.bool true)).as rfl rfl rfl rfl⟩ | exact ⟨rfl, (((h.set 4 (.int .i64 (n - d)) (by simp [tlC])).set 4 (.int .i64 (0)) (by simp [tlC])).set 5 (.bool false) (by simp [tlC])).as rfl, ((((Only.refl b w).setCell (p := ⟨b, 4, none⟩) (.int .i64 (n - d))).setCell (p := ⟨b, 4, none⟩) (.int .i64 (0))).setCell (p := ⟨b, 5, none⟩) (.bool false)).as rfl rfl rfl rfl⟩
    · by_cases hc : n + u ≤ m
      · have en : tnx u d m n true = n + u := by unfold tnx; simp; omega
        rw [en]
        clear en
        have hg : decide (m < n + u) = false := decide_eq_false (by omega)
        cases hs : decide (s ≤ n + u)
        all_goals
          go_wp2_with fail
          go_region
          go_wp2_with fail
          go_quiet (fail)
          go_wp2_with fail
          go_region
          go_wp2
          go_ret
          first | exact ⟨rfl, ((h.set 4 (.int .i64 (n + u)) (by simp [tlC])).set 5 (.bool true) (by simp [tlC])).as rfl, (((Only.refl b w).setCell (p := ⟨b, 4, none⟩) (.int .i64 (n + u))).setCell (p := ⟨b, 5, none⟩) (.bool true)).as rfl rfl rfl rfl⟩ | exact ⟨rfl, ((h.set 4 (.int .i64 (n + u)) (by simp [tlC])).set 5 (.bool false) (by simp [tlC])).as rfl, (((Only.refl b w).setCell (p := ⟨b, 4, none⟩) (.int .i64 (n + u))).setCell (p := ⟨b, 5, none⟩) (.bool false)).as rfl rfl rfl rfl⟩
      · have en : tnx u d m n true = m := by unfold tnx; simp; omega
        rw [en]
        clear en
        have hg : decide (m < n + u) = true := decide_eq_true (by omega)
        have hs : decide (s ≤ m) = true := decide_eq_true (by omega)
        go_wp2_with fail
        go_region
        go_wp2_with fail
        go_quiet (fail)
        go_wp2_with fail
        go_region
        go_wp2
        go_ret
        rw [hs]
        first | exact ⟨rfl, (((h.set 4 (.int .i64 (n + u)) (by simp [tlC])).set 4 (.int .i64 (m)) (by simp [tlC])).set 5 (.bool true) (by simp [tlC])).as rfl, ((((Only.refl b w).setCell (p := ⟨b, 4, none⟩) (.int .i64 (n + u))).setCell (p := ⟨b, 4, none⟩) (.int .i64 (m))).setCell (p := ⟨b, 5, none⟩) (.bool true)).as rfl rfl rfl rfl⟩ | exact ⟨rfl, (((h.set 4 (.int .i64 (n + u)) (by simp [tlC])).set 4 (.int .i64 (m)) (by simp [tlC])).set 5 (.bool false) (by simp [tlC])).as rfl, ((((Only.refl b w).setCell (p := ⟨b, 4, none⟩) (.int .i64 (n + u))).setCell (p := ⟨b, 4, none⟩) (.int .i64 (m))).setCell (p := ⟨b, 5, none⟩) (.bool false)).as rfl rfl rfl rfl⟩
end Go.Proofs.Ytifbedliibhmoaa
