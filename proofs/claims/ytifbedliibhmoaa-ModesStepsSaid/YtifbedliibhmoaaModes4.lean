/- The law ModesNew, walked. -/
import Derived.Test.YtifbedliibhmoaaModes3
namespace Go.Proofs.Ytifbedliibhmoaa
open Go.ChangeShapes Go.WideShapes Go.ChangeAt Go.RowKit
set_option linter.unusedVariables false

theorem askd_cases (wm a bb s d : Bool) : askd wm a bb s d = 0 ∨ askd wm a bb s d = 1 ∨ askd wm a bb s d = 2 ∨ askd wm a bb s d = 3 ∨ askd wm a bb s d = 4 ∨ askd wm a bb s d = 5 := by
  cases wm <;> cases a <;> cases bb <;> cases s <;> cases d <;> decide

/-- The facts of a row of the table, in whatever world that keeps what was. -/
theorem facts_at {w : World} {t : Option Addr} {rows : List (List Value)} (h : Tab [none, none, none, none, none] w t rows) {i : Nat} (hi : i < rows.length) :
    ∃ tb off wm a bb s d, t = some ⟨tb, off, none⟩ ∧ tb < w.heap.size ∧ ∀ v, Below w.heap.size w v → v.cell? ⟨tb, off + i * 5, none⟩ = some (.bool wm) ∧ v.cell? ⟨tb, off + i * 5 + 1, none⟩ = some (.bool a) ∧
      v.cell? ⟨tb, off + i * 5 + 2, none⟩ = some (.bool bb) ∧ v.cell? ⟨tb, off + i * 5 + 3, none⟩ = some (.bool s) ∧ v.cell? ⟨tb, off + i * 5 + 4, none⟩ = some (.bool d) := by
  obtain ⟨tb, off, r, rfl, htb, hr, hfl, hcell⟩ := h.at hi
  obtain ⟨wm, _, rfl, hfl⟩ := hfl
  obtain ⟨a, _, rfl, hfl⟩ := hfl
  obtain ⟨bb, _, rfl, hfl⟩ := hfl
  obtain ⟨s, _, rfl, hfl⟩ := hfl
  obtain ⟨d, _, rfl, hfl⟩ := hfl
  exact ⟨tb, off, wm, a, bb, s, d, rfl, htb, fun v hv => ⟨(bc hv htb).trans (hcell 0 _ rfl), (bc hv htb).trans (hcell 1 _ rfl), (bc hv htb).trans (hcell 2 _ rfl), (bc hv htb).trans (hcell 3 _ rfl), (bc hv htb).trans (hcell 4 _ rfl)⟩⟩

set_option maxHeartbeats 400000 in
theorem mstep_nil (wm a bb s d : Bool) (w : World) :
    Calls Try.prog 45 #[.pointer none, .agg #[.bool wm, .bool a, .bool bb, .bool s, .bool d]] w fun e w' => e = .returned (.int .i64 5) ∧ Below w.heap.size w w' := by
  go_enter Try.func45, Try.ntmps45
  go_wp2
  go_ret
  exact ⟨rfl, (by repeat (first | exact Below.refl _ _ | assumption | apply Below.drew | apply below_drewN | (refine Below.alloc ?_ (by first | exact Nat.le_refl _ | omega | (simp <;> omega)) _) | (refine Below.setCell ?_ (by first | exact Nat.le_refl _ | omega | (simp <;> omega)) _)))⟩
set_option maxHeartbeats 400000 in
theorem mmode_nil (w : World) : Calls Try.prog 47 #[.pointer none] w fun e w' => e = .returned (.int .i64 5) ∧ w = w' := by
  go_enter Try.func47, Try.ntmps47
  go_wp2
  go_ret
  exact ⟨rfl, rfl⟩
set_option maxHeartbeats 400000 in
theorem mchg_nil (w : World) : Calls Try.prog 48 #[.pointer none] w fun e w' => e = .returned (.int .i64 0) ∧ w = w' := by
  go_enter Try.func48, Try.ntmps48
  go_wp2
  go_ret
  exact ⟨rfl, rfl⟩
set_option maxHeartbeats 400000 in
theorem mreset_nil (w : World) : Calls Try.prog 44 #[.pointer none] w fun e w' => e = .returned (.tuple #[]) ∧ w = w' := by
  go_enter Try.func44, Try.ntmps44
  go_wp2
  go_end0
  exact ⟨rfl, rfl⟩

theorem msC_bd (p md n c k : Int) (s : Bool) : c ≤ msC p md n c k s ∧ msC p md n c k s ≤ c + 1 := by
  unfold msC; split
  · omega
  · split <;> omega

end Go.Proofs.Ytifbedliibhmoaa
