/- Package vote: which readings are there, the one that is picked. -/
import Derived.Test.YtffhhdjcodapjaaPair
import Derived.Test.YtffhhdjcodapjaaReg
import Derived.Test.YtffhhdjcodapjaaHb
namespace Go.Proofs.Ytffhhdjcodapjaa
open Go.ChangeShapes Go.WideShapes Go.ChangeAt Go.RowKit
set_option linter.unusedVariables false
set_option linter.unusedSimpArgs false

def vtC (k : Nat) (e0 e1 e2 : Int) : List Value := [.bool (decide (0 < k) && (e0 == 0)), .bool (decide (1 < k) && (e1 == 0)), .bool (decide (2 < k) && (e2 == 0))]

theorem held_at {W : World} {n : Nat} (cs : List Value) (t : TypeId) (e : n = W.heap.size) : Held n cs (W.alloc (.cells cs.toArray t)) := e ▸ Held.new W cs t
theorem vtC_0 (e0 e1 e2 : Int) : vtC 0 e0 e1 e2 = [.bool false, .bool false, .bool false] := by simp [vtC]
theorem Held.is {b : Nat} {cs ds : List Value} {w : World} (h : Held b cs w) (e : cs = ds) : Held b ds w := e ▸ h

set_option maxRecDepth 100000 in
set_option maxHeartbeats 2000000 in
theorem vavail_any (x0 e0 x1 e1 x2 e2 : Int) (w : World) :
    Calls Try.prog 47 #[.agg #[.int .i64 x0, .int .i64 e0, .int .i64 x1, .int .i64 e1, .int .i64 x2, .int .i64 e2]] w fun r w' => r = .returned (.agg #[.bool (e0 == 0), .bool (e1 == 0), .bool (e2 == 0)]) ∧ Below w.heap.size w w' := by
  go_enter Try.func47, Try.ntmps47
  go_wp2_with fail
  go_loopw [7] (fun i u => ∃ k : Nat, k ≤ 3 ∧ i = .int .i64 k ∧ Held (w.heap.size + 2) (vtC k e0 e1 e2) u ∧ Held (w.heap.size + 1) [.bool false, .bool false, .bool false] u ∧ Below w.heap.size w u) (fun i _ => 3 - (intOf i).toNat)
  case atStart =>
    refine ⟨0, by omega, rfl, ?_, ?_, (by repeat (first | exact Below.refl _ _ | assumption | apply Below.drew | apply below_drewN | (refine Below.alloc ?_ (by first | exact Nat.le_refl _ | omega | (simp <;> omega)) _) | (refine Below.setCell ?_ (by first | exact Nat.le_refl _ | omega | (simp <;> omega)) _)))⟩
    · rw [vtC_0]
      exact held_at [.bool false, .bool false, .bool false] _ (by simp)
    · exact Held.alloc (held_at [.bool false, .bool false, .bool false] _ (by simp)) _
  case round =>
    obtain ⟨k, hk, rfl, h2, h1, hbel⟩ := hrel
    have hlt := h2.lt
    by_cases hk3 : k < 3
    · have hne : w.heap.size + 2 ≠ wr.heap.size := by omega
      have i0 : ∀ u, (Instr.index 40 (.agg #[.int .i64 x0, .int .i64 e0, .int .i64 x1, .int .i64 e1, .int .i64 x2, .int .i64 e2]) (.int .i64 0)).run Try.prog u = .ok (.agg #[.int .i64 x0, .int .i64 e0]) u := fun _ => by kernel_rfl
      have i1 : ∀ u, (Instr.index 40 (.agg #[.int .i64 x0, .int .i64 e0, .int .i64 x1, .int .i64 e1, .int .i64 x2, .int .i64 e2]) (.int .i64 1)).run Try.prog u = .ok (.agg #[.int .i64 x1, .int .i64 e1]) u := fun _ => by kernel_rfl
      have i2 : ∀ u, (Instr.index 40 (.agg #[.int .i64 x0, .int .i64 e0, .int .i64 x1, .int .i64 e1, .int .i64 x2, .int .i64 e2]) (.int .i64 2)).run Try.prog u = .ok (.agg #[.int .i64 x2, .int .i64 e2]) u := fun _ => by kernel_rfl
      obtain rfl | rfl | rfl : k = 0 ∨ k = 1 ∨ k = 2 := by omega
      · have hq := h2
        obtain ⟨c0, f0⟩ := hq.one 0 rfl
        obtain ⟨c1, f1⟩ := hq.one 1 rfl
        obtain ⟨c2, f2⟩ := hq.one 2 rfl
        go_wp2
        go_roundw
        case rel => exact ⟨1, by omega, rfl, ((h2.set 0 (.bool (e0 == 0)) (by simp [vtC])).alloc _).is (by simp [vtC]), (Held.only h1 ((Only.refl (w.heap.size + 2) wr).setCell (p := ⟨w.heap.size + 2, 0, none⟩) _) (by show w.heap.size + 1 ≠ w.heap.size + 2; omega)).alloc _, (hbel.setCell (p := ⟨w.heap.size + 2, 0, none⟩) (by show w.heap.size ≤ w.heap.size + 2; omega) _).alloc (by simp; omega) _⟩
        case measure => simp [intOf]
      · have hq := h2
        obtain ⟨c0, f0⟩ := hq.one 0 rfl
        obtain ⟨c1, f1⟩ := hq.one 1 rfl
        obtain ⟨c2, f2⟩ := hq.one 2 rfl
        go_wp2
        go_roundw
        case rel => exact ⟨2, by omega, rfl, ((h2.set 1 (.bool (e1 == 0)) (by simp [vtC])).alloc _).is (by simp [vtC]), (Held.only h1 ((Only.refl (w.heap.size + 2) wr).setCell (p := ⟨w.heap.size + 2, 1, none⟩) _) (by show w.heap.size + 1 ≠ w.heap.size + 2; omega)).alloc _, (hbel.setCell (p := ⟨w.heap.size + 2, 1, none⟩) (by show w.heap.size ≤ w.heap.size + 2; omega) _).alloc (by simp; omega) _⟩
        case measure => simp [intOf]
      · have hq := h2
        obtain ⟨c0, f0⟩ := hq.one 0 rfl
        obtain ⟨c1, f1⟩ := hq.one 1 rfl
        obtain ⟨c2, f2⟩ := hq.one 2 rfl
        go_wp2
        go_roundw
        case rel => exact ⟨3, by omega, rfl, ((h2.set 2 (.bool (e2 == 0)) (by simp [vtC])).alloc _).is (by simp [vtC]), (Held.only h1 ((Only.refl (w.heap.size + 2) wr).setCell (p := ⟨w.heap.size + 2, 2, none⟩) _) (by show w.heap.size + 1 ≠ w.heap.size + 2; omega)).alloc _, (hbel.setCell (p := ⟨w.heap.size + 2, 2, none⟩) (by show w.heap.size ≤ w.heap.size + 2; omega) _).alloc (by simp; omega) _⟩
        case measure => simp [intOf]
    · obtain rfl : k = 3 := by omega
      obtain ⟨c0, f0⟩ := h2.one 0 rfl
      obtain ⟨c1, f1⟩ := h2.one 1 rfl
      obtain ⟨c2, f2⟩ := h2.one 2 rfl
      obtain ⟨p0, g0⟩ := h1.one 0 rfl
      obtain ⟨p1, g1⟩ := h1.one 1 rfl
      obtain ⟨p2, g2⟩ := h1.one 2 rfl
      go_wp2
      exact bodyPost_ret (v := .agg #[.bool (e0 == 0), .bool (e1 == 0), .bool (e2 == 0)]) (by simp [results, Try.results47, go_sem, p0, p1, p2]) rfl ⟨rfl, ((hbel.setCell (by simp) _).setCell (by simp) _).setCell (by simp) _⟩
end Go.Proofs.Ytffhhdjcodapjaa
