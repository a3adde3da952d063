/- Contracts of package modes. -/
import Derived.Test.YtifbedliibhmoaaModes1
import Derived.Test.YtifbedliibhmoaaAtom
import Derived.Test.YtifbedliibhmoaaBeside
import Derived.BigRegion
namespace Go.Proofs.Ytifbedliibhmoaa
open Go.ChangeShapes Go.WideShapes Go.ChangeAt Go.RowKit
set_option linter.unusedVariables false

def mdC (p md n c : Int) : List Value := [.int .i64 p, .int .i64 md, .int .i64 n, .int .i64 c]
def prb (k : Int) : Bool := (k == 1) || (k == 2) || (k == 3)
/-- Does it wait? -/
def msW (p md n k : Int) (s : Bool) : Bool := (md == 4) && s && prb k && decide (n + 1 < p)
def msM (p md n k : Int) (s : Bool) : Int := if msW p md n k s then 4 else k
def msN (p md n k : Int) (s : Bool) : Int := if msW p md n k s then n + 1 else 0
def msC (p md n c k : Int) (s : Bool) : Int := if msW p md n k s then c else if k == md then c else c + 1

set_option maxHeartbeats 400000 in
theorem probes_any (k : Int) (w : World) :
    Calls Try.prog 80 #[.int .i64 k] w fun e w' => e = .returned (.bool (prb k)) ∧ w = w' := by
  unfold prb
  cases h1 : (k == 1)
  all_goals
    cases h2 : (k == 2)
    all_goals
      go_enter Try.func80, Try.ntmps80
      go_wp2
      go_ret
      exact ⟨rfl, rfl⟩

set_option maxHeartbeats 400000 in
theorem mmode_any (b : Nat) {p md n c : Int} (w : World) (h : Held b (mdC p md n c) w) :
    Calls Try.prog 47 #[.pointer (some ⟨b, 0, none⟩)] w fun e w' => e = .returned (.int .i64 md) ∧ w = w' := by
  obtain ⟨c0, f0⟩ := h.one 0 rfl
  obtain ⟨c1, f1⟩ := h.one 1 rfl
  obtain ⟨c2, f2⟩ := h.one 2 rfl
  obtain ⟨c3, f3⟩ := h.one 3 rfl
  go_enter Try.func47, Try.ntmps47
  go_wp2
  go_ret
  exact ⟨rfl, rfl⟩

set_option maxHeartbeats 400000 in
theorem mchg_any (b : Nat) {p md n c : Int} (w : World) (h : Held b (mdC p md n c) w) :
    Calls Try.prog 48 #[.pointer (some ⟨b, 0, none⟩)] w fun e w' => e = .returned (.int .i64 c) ∧ w = w' := by
  obtain ⟨c0, f0⟩ := h.one 0 rfl
  obtain ⟨c1, f1⟩ := h.one 1 rfl
  obtain ⟨c2, f2⟩ := h.one 2 rfl
  obtain ⟨c3, f3⟩ := h.one 3 rfl
  go_enter Try.func48, Try.ntmps48
  go_wp2_with (go_at_call 68; refine (aload64 _ _ _ _ c3).mono ?_; rintro e w1 ⟨rfl, rfl⟩)
  go_ret
  exact ⟨rfl, rfl⟩

set_option maxHeartbeats 400000 in
theorem mreset_any (b : Nat) {p md n c : Int} (w : World) (h : Held b (mdC p md n c) w) :
    Calls Try.prog 44 #[.pointer (some ⟨b, 0, none⟩)] w fun e w' => e = .returned (.tuple #[]) ∧ Held b (mdC p 0 0 c) w' ∧ Only b w w' := by
  obtain ⟨c0, f0⟩ := h.one 0 rfl
  obtain ⟨c1, f1⟩ := h.one 1 rfl
  obtain ⟨c2, f2⟩ := h.one 2 rfl
  obtain ⟨c3, f3⟩ := h.one 3 rfl
  go_enter Try.func44, Try.ntmps44
  go_wp2
  go_end0
  exact ⟨rfl, (h.set 1 (.int .i64 0) (by simp [mdC])).set 2 (.int .i64 0) (by simp [mdC]), ((Only.refl b w).setCell (p := ⟨b, 1, none⟩) _).setCell (p := ⟨b, 2, none⟩) _⟩

set_option maxHeartbeats 400000 in
theorem mnew_ok (p : Int) (w : World) (h1 : 1 ≤ p) (h2 : p ≤ 10000) :
    Calls Try.prog 42 #[.int .i64 p] w (NewObj (mdC p 0 0 0) w) := by
  go_enter Try.func42, Try.ntmps42
  go_wp2
  go_ret2
  exact ⟨w.heap.size, Nat.le_refl _, rfl, Held.new w (mdC p 0 0 0) _, (Below.refl _ _).alloc (Nat.le_refl _) _⟩

set_option maxHeartbeats 400000 in
theorem mnew_no (p : Int) (w : World) (h : ¬ (1 ≤ p ∧ p ≤ 10000)) :
    Calls Try.prog 42 #[.int .i64 p] w fun e w' => e = .returned (.tuple #[.pointer none, .int .i64 2]) ∧ w = w' := by
  go_enter Try.func42, Try.ntmps42
  go_wp2
  all_goals
    go_ret2
    exact ⟨rfl, rfl⟩

end Go.Proofs.Ytifbedliibhmoaa
