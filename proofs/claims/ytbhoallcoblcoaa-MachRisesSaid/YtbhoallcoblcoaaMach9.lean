/- The law MachRises, walked. -/
import Derived.Test.YtbhoallcoblcoaaMach8a
import Derived.Test.YtbhoallcoblcoaaMach8b
import Derived.Test.YtbhoallcoblcoaaMach8c
import Derived.Test.YtbhoallcoblcoaaMach8d
namespace Go.Proofs.Ytbhoallcoblcoaa
open Go.ChangeShapes Go.WideShapes Go.ChangeAt Go.RowKit
set_option linter.unusedVariables false
set_option linter.unusedSimpArgs false

theorem law_MachRises (x0 x1 y0 y1 : Int) (w : World) :
    Calls Try.prog 10 #[.agg #[.int .i64 x0, .int .i64 x1], .agg #[.int .i64 y0, .int .i64 y1]] w fun e w' => e = .returned (.bool true) ∧ Below w.heap.size w w' := by
  have R0 := Lib.hid (fun u => mratio_any x0 u)
  have R1 := Lib.hid (fun u => mratio_any x1 u)
  have O0 := Lib.hid (fun u => mof_any y0 u)
  have O1 := Lib.hid (fun u => mof_any y1 u)
  have RX := Lib.hid (fun u => mratio_any (mcO y0) u)
  have OB := Lib.hid (fun u => mof_any (mcR x0) u)
  have RB := Lib.hid (fun u => mratio_any (mcO (mcR x0)) u)
  have bx := mcO_bd y0
  have HX := Lib.hid (fun h : 0 ≤ y0 => mcR_mcO h)
  have HB := Lib.hid (fun (h : 0 ≤ x0 ∧ x0 ≤ 20000) => mcO_mcR h.1 h.2)
  have t1 : (x0 < x1 ∧ mcR x0 ≤ mcR x1) ∨ (x0 = x1) ∨ (x1 < x0 ∧ mcR x1 ≤ mcR x0) := by
    rcases Int.lt_trichotomy x0 x1 with h | h | h
    · exact .inl ⟨h, mcR_mono (by omega)⟩
    · exact .inr (.inl h)
    · exact .inr (.inr ⟨h, mcR_mono (by omega)⟩)
  have t2 : (y0 < y1 ∧ mcO y0 ≤ mcO y1) ∨ (y0 = y1) ∨ (y1 < y0 ∧ mcO y1 ≤ mcO y0) := by
    rcases Int.lt_trichotomy y0 y1 with h | h | h
    · exact .inl ⟨h, mcO_mono (by omega)⟩
    · exact .inr (.inl h)
    · exact .inr (.inr ⟨h, mcO_mono (by omega)⟩)
  have e1 : x0 = x1 → mcR x0 = mcR x1 := fun h => by rw [h]
  have e2 : y0 = y1 → mcO y0 = mcO y1 := fun h => by rw [h]
  replace t1 : (x0 < x1 ∧ mcR x0 ≤ mcR x1) ∨ (x0 ≤ x1 ∧ x1 ≤ x0 ∧ mcR x0 ≤ mcR x1 ∧ mcR x1 ≤ mcR x0) ∨ (x1 < x0 ∧ mcR x1 ≤ mcR x0) := by
    rcases t1 with h | h | h
    · exact .inl h
    · have := e1 h; exact .inr (.inl ⟨by omega, by omega, by omega, by omega⟩)
    · exact .inr (.inr h)
  replace t2 : (y0 < y1 ∧ mcO y0 ≤ mcO y1) ∨ (y0 ≤ y1 ∧ y1 ≤ y0 ∧ mcO y0 ≤ mcO y1 ∧ mcO y1 ≤ mcO y0) ∨ (y1 < y0 ∧ mcO y1 ≤ mcO y0) := by
    rcases t2 with h | h | h
    · exact .inl h
    · have := e2 h; exact .inr (.inl ⟨by omega, by omega, by omega, by omega⟩)
    · exact .inr (.inr h)
  clear e1 e2
  obtain ⟨bx0, bx1⟩ := bx
  by_cases hy : 0 ≤ y0
  · by_cases hx : 0 ≤ x0 ∧ x0 ≤ 20000
    · obtain ⟨j1, j2⟩ := HB.out hx
      rw [j2] at RB
      exact mrs_a _ _ _ _ _ _ _ _ _ _ w R0 R1 O0 O1 RX OB RB bx0 bx1 (decide_eq_true hy) (HX.out hy) hx.1 hx.2 j1 t1 t2
    · exact mrs_b _ _ _ _ _ _ _ _ _ _ _ w R0 R1 O0 O1 RX OB RB bx0 bx1 (decide_eq_true hy) (HX.out hy) (by omega) t1 t2
  · by_cases hx : 0 ≤ x0 ∧ x0 ≤ 20000
    · obtain ⟨j1, j2⟩ := HB.out hx
      rw [j2] at RB
      exact mrs_c _ _ _ _ _ _ _ _ _ _ w R0 R1 O0 O1 RX OB RB bx0 bx1 (decide_eq_false hy) hx.1 hx.2 j1 t1 t2
    · exact mrs_d _ _ _ _ _ _ _ _ _ _ _ w R0 R1 O0 O1 RX OB RB bx0 bx1 (decide_eq_false hy) (by omega) t1 t2
end Go.Proofs.Ytbhoallcoblcoaa
