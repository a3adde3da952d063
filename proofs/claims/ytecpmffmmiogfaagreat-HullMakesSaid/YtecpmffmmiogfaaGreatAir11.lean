/- An atmosphere of a law's own; the laws AirPressures, AirHeights, AirBack; walked. -/
import Derived.Test.YtecpmffmmiogfaaGreatAir10
import Derived.Deep.Cut
namespace Go.Proofs.YtecpmffmmiogfaaGreat
open Go.ChangeShapes Go.WideShapes Go.ChangeAt Go.RowKit
set_option linter.unusedVariables false
set_option linter.unusedSimpArgs false
/-- The law's atmosphere stands in the first block behind w; what lay there is as it was. -/
structure AirW (w u : World) : Prop where
  r : AirR w.heap.size u
  b : Below w.heap.size w u
theorem AirW.step {w u u' : World} (h : AirW w u) (a : AirO w.heap.size 1 0 aS u') (k : Beside w.heap.size u u') : AirW w u' := ⟨.inr a, h.b.trans (k.below (Nat.le_refl _) h.b.size)⟩
theorem AirW.bel {w u u' : World} (h : AirW w u) (k : Below u.heap.size u u') : AirW w u' := ⟨h.r.bel k, h.b.trans (k.mono h.b.size)⟩
theorem AirW.drew {w u : World} (h : AirW w u) : AirW w u.drew := h.bel (Below.refl _ _).drew
/-- A row of steps beside it. -/
structure StC (w : World) (g off : Nat) (u : World) : Prop where
  ne : w.heap.size < g
  lt : g < u.heap.size
  c : ∀ i, i < 2101 → u.cell? ⟨g, off + i, none⟩ = some (.int .i64 (aS i))
theorem StC.beside {w u u' : World} {g off : Nat} (h : StC w g off u) (k : Beside w.heap.size u u') : StC w g off u' :=
  ⟨h.ne, Nat.lt_of_lt_of_le h.lt k.size, fun i hi => (World.cell?_of_block (a := ⟨g, off + i, none⟩) (k.block g h.lt (by have := h.ne; omega))).trans (h.c i hi)⟩
theorem StC.bel {w u u' : World} {g off : Nat} (h : StC w g off u) (k : Below u.heap.size u u') : StC w g off u' := h.beside (.of_below k)
theorem StC.drew {w u : World} {g off : Nat} (h : StC w g off u) : StC w g off u.drew := h.bel (Below.refl _ _).drew
theorem stc_of {w u0 u : World} {x : Value} {L : List Int} (h : w.heap.size < u0.heap.size) (hO : Ow u0.heap.size x L u) (hL : StL L) : ∃ g off cap, x = .slice (some ⟨g, off, none⟩) 2101 cap ∧ StC w g off u := by
  have l := hL.len
  rcases hO with ⟨_, e⟩ | ⟨g, off, cap, cur, rfl, hB, hg, hc, hs, hx⟩
  · rw [e] at l; cases l
  · refine ⟨g, off, cap, by rw [l], by omega, (by
      rcases Nat.lt_or_ge g u.heap.size with q | q
      · exact q
      · rw [Array.getElem?_eq_none q] at hg; cases hg), fun i hi => ?_⟩
    rw [cell_of_row u g (off + i) cur _ (0, 0) hg, hx i (by omega), hL.at' i hi]
theorem aheightW (p : Int) (w u : World) (m : AirW w u) : Calls Tryz.prog 13 #[.pointer (some ⟨w.heap.size, 0, none⟩), .int .i64 p] u fun e w' => e = .returned (.int .i64 (heV p)) ∧ AirW w w' ∧ Beside w.heap.size u w' :=
  (aheight _ p u m.r).mono (fun e w' q => ⟨q.1, m.step q.2.1 q.2.2, q.2.2⟩)
theorem rstepsW (w u : World) (m : AirW w u) : Calls Tryz.prog 6 #[] u fun e w' => ∃ g off cap, e = .returned (.slice (some ⟨g, off, none⟩) 2101 cap) ∧ StC w g off w' ∧ AirW w w' :=
  (rsteps u).mono (fun e w' q => by
    obtain ⟨x, L, rfl, hO, hL, hb⟩ := q
    obtain ⟨g, off, cap, rfl, s⟩ := stc_of m.r.lt hO hL
    exact ⟨g, off, cap, rfl, s, m.bel hb⟩)
theorem rheightW (p : Int) (g off cap : Nat) (w u : World) (m : AirW w u) (s : StC w g off u) : Calls Tryz.prog 10 #[.slice (some ⟨g, off, none⟩) 2101 cap, .int .i64 p] u fun e w' => e = .returned (.int .i64 (heV p)) ∧ AirW w w' ∧ StC w g off w' :=
  (rheight g off cap p u s.c).mono (fun e w' q => ⟨q.1, m.bel q.2, s.bel q.2⟩)
theorem air_newW (w : World) : ∃ (Z : Array Value) (V : World), (∀ u, (zeroValue 36).run Tryz.prog u = .ok (.agg Z) u) ∧ V = w.alloc (.cells Z 36) ∧ AirW w V := by
  obtain ⟨Z, hz, HN⟩ := air_new
  obtain ⟨hA, hb, _⟩ := HN w
  exact ⟨Z, _, hz, rfl, .inl ⟨_, hA⟩, hb⟩
end Go.Proofs.YtecpmffmmiogfaaGreat
