/- The document's steps, and those of an atmosphere, as new rows; walked. -/
import Derived.Test.YtecpmffmmiogfaaAir9
import Derived.Test.YtecpmffmmiogfaaOw
import Derived.Deep.Cut
namespace Go.Proofs.Ytecpmffmmiogfaa
open Go.ChangeShapes Go.WideShapes Go.ChangeAt Go.RowKit
set_option linter.unusedVariables false
set_option linter.unusedSimpArgs false
theorem Ow.mono {B B2 : Nat} {x : Value} {L : List Int} {w : World} (h : Ow B x L w) (k : B2 ≤ B) : Ow B2 x L w := by
  rcases h with h | ⟨g, off, cap, cur, rfl, hB, r⟩
  · exact .inl h
  · exact .inr ⟨g, off, cap, cur, rfl, Nat.le_trans k hB, r⟩
def stR (m : Nat) : List Int := (List.range m).map aS
def stD (k : Nat) : List Int := (List.range k).map (fun i => (adN (i + 1) : Int))
theorem stR_len (m : Nat) : (stR m).length = m := by simp [stR]
theorem stD_len (m : Nat) : (stD m).length = m := by simp [stD]
theorem stR_succ (m : Nat) : stR (m + 1) = stR m ++ [aS m] := by simp [stR, List.range_succ]
theorem stD_succ (m : Nat) : stD (m + 1) = stD m ++ [(adN (m + 1) : Int)] := by simp [stD, List.range_succ]
theorem stR_at {m i : Nat} (h : i < m) : (stR m).getD i 0 = aS i := by simp [stR, List.getD, h]
theorem stD_at {m i : Nat} (h : i < m) : (stD m).getD i 0 = (adN (i + 1) : Int) := by simp [stD, List.getD, h]
theorem stL_R : StL (stR 2101) := ⟨stR_len _, fun i hi => stR_at hi⟩
theorem alN_int (k : Nat) : (alN k : Int) = 574106 * (atN k : Int) - 98066500 := by
  have := atN_bd k
  unfold alN
  generalize atN k = t at *
  omega
theorem amN_int (k : Nat) : (amN k : Int) = 574106 * (atN k : Int) + 98066500 := by
  unfold amN
  generalize atN k = t at *
  omega
end Go.Proofs.Ytecpmffmmiogfaa
