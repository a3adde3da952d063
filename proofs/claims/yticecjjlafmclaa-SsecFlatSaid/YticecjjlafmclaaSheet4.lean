/- The chapter's example; the law SheetTells, walked. -/
import Derived.Test.YticecjjlafmclaaSheet3
import Derived.Deep.Cut
namespace Go.Proofs.Yticecjjlafmclaa
open Go.ChangeShapes Go.WideShapes Go.ChangeAt Go.RowKit
set_option linter.unusedVariables false
set_option linter.unusedSimpArgs false

def two (p q : Option Addr) (i : Nat) : Option Addr := if i = 0 then p else q
theorem grid2_at {W : World} {b x y : Nat} {p q r s : Int} (hb : b < W.heap.size) (h0 : W.cell? ⟨b, 0, none⟩ = some (.slice (some ⟨x, 0, none⟩) 2 2)) (h1 : W.cell? ⟨b, 1, none⟩ = some (.slice (some ⟨y, 0, none⟩) 2 2)) (r0 : RowIs .i64 W (some ⟨x, 0, none⟩) [p, q]) (r1 : RowIs .i64 W (some ⟨y, 0, none⟩) [r, s]) :
    GridIs .i64 W (some ⟨b, 0, none⟩) (two (some ⟨x, 0, none⟩) (some ⟨y, 0, none⟩)) (fun _ => 2) [[p, q], [r, s]] :=
  ⟨.inr ⟨b, 0, rfl, hb, fun i hi => by
    rcases i with _ | _ | i
    · exact h0
    · exact h1
    · have h2 : i + 1 + 1 < 2 := hi
      omega⟩, fun i hi => by
    rcases i with _ | _ | i
    · exact r0
    · exact r1
    · have h2 : i + 1 + 1 < 2 := hi
      omega⟩
theorem k06 : CrK [0, 10] 5 1 := by
  refine ⟨by decide, fun t ht => ?_, fun t a b => ?_⟩
  · obtain rfl : t = 0 := by omega
    decide
  · have b' : t < 2 := b
    obtain rfl : t = 1 := by omega
    decide
theorem one06 : crF [0, 10] (cuL [0, 10] [[0, 10], [20, 30]] 5) 5 = 15 := by
  unfold cuL
  rw [List.map_cons, List.map_cons, List.map_nil, crF_at (Y := [0, 10]) (by decide +kernel) k06, crF_at (Y := [20, 30]) (by decide +kernel) k06, crF_at (by decide +kernel) k06]
  decide +kernel
theorem sh06 : shB [0, 10] [0, 10] [[0, 10], [20, 30]] = true := by decide +kernel
end Go.Proofs.Yticecjjlafmclaa
