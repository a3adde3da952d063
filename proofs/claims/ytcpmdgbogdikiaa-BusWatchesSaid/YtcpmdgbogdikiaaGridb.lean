/- A row of rows of numbers that came in as an argument: where the rows lie, their room, their numbers. -/
import Derived.Test.YtcpmdgbogdikiaaMixg
namespace Go.Proofs.Ytcpmdgbogdikiaa
open Go.Deep
open Go.ChangeShapes Go.WideShapes Go.ChangeAt Go.RowKit
set_option linter.unusedVariables false

section
variable {H : Type} {enc : TypeId × Value → H} {P : Program} {w : World} {base : Nat} {held : Bool}
theorem open_gridb {r : Reach} {b0 : Nat} {t e q : TypeId} {k : IntKind} {v : Value} {d : DataW H} {p : List MemPlace} (ht : P.underlying t = some (.slice e)) (he : P.underlying e = some (.slice q)) (hq : P.underlying q = some (.int k)) (ce : P.cellsOf e = 1) (cq : P.cellsOf q = 1)
    (hv : Value.okWide P w r b0 t v) (h : DataW.Trod enc P w base (fun _ => true) held t v d p) : ∃ (a : Option Addr) (A : Nat → Option Addr) (C : Nat → Nat) (Z : List (List Int)) (cap : Nat), v = .slice a Z.length cap ∧ Z.length ≤ cap ∧ cap ≤ maxLen ∧ GridIs k w a A C Z ∧ ∀ i, i < Z.length → (Z.getD i []).length ≤ maxLen ∧ ∀ n ∈ Z.getD i [], (Lit.int k n).wf = true := by
  obtain ⟨a0, len0, cap0, rfl⟩ := okWide_slice ht hv
  obtain ⟨fuel, hf⟩ := h
  rcases open_int_rows ht he hq ce cq hf with ⟨hcs, _⟩ | ⟨a, len, cap, A, L, C, Z, hcs, _, hl, hm, _, hx⟩
  · simp [Value.cells] at hcs
    obtain ⟨rfl, rfl, rfl⟩ := hcs
    exact ⟨none, fun _ => none, fun _ => 0, [], 0, rfl, Nat.le_refl _, Nat.zero_le _, ⟨.inl rfl, fun i hi => absurd hi (Nat.not_lt_zero _)⟩, fun i hi => absurd hi (Nat.not_lt_zero _)⟩
  · simp [Value.cells] at hcs
    obtain ⟨rfl, rfl, rfl⟩ := hcs
    have eg : ∀ i, i < len0 → ((List.range len0).map fun r => (Z r).take (L r)).getD i [] = (Z i).take (L i) := fun i hi => by simp [List.getD, hi]
    refine ⟨some a, A, C, (List.range len0).map fun r => (Z r).take (L r), cap0, by simp, by simpa using hl, hm, ⟨?_, fun i hi => ?_⟩, fun i hi => ?_⟩
    · by_cases h0 : len0 = 0
      · subst h0; exact .inl rfl
      · obtain ⟨b, off, spot⟩ := a
        have hc0 := (hx 0 (by omega)).1
        have hspot : spot = none := by simpa [Addr.add] using World.cell?_spot hc0
        subst hspot
        refine .inr ⟨b, off, rfl, cell_lt (by simpa [Addr.add] using hc0), fun i hi => ?_⟩
        have hi' : i < len0 := by simpa using hi
        obtain ⟨h1, h2, h3, h4, -⟩ := hx i (by omega)
        have e2 : (⟨b, off, none⟩ : Addr).add i = ⟨b, off + i, none⟩ := by
          unfold Addr.add; split
          · subst_vars; rfl
          · rfl
        rw [e2] at h1
        rw [h1, eg i hi', List.length_take, Nat.min_eq_left (by omega)]
    · have hi' : i < len0 := by simpa using hi
      obtain ⟨h1, h2, h3, h4, h5, h6, h7⟩ := hx i (by omega)
      rw [eg i hi']
      by_cases h0 : L i = 0
      · rw [h0]; exact .inl rfl
      · cases hA : A i with
        | none => have := h6 hA; omega
        | some a' =>
          obtain ⟨b', off', spot'⟩ := a'
          have hc0 := (h7 _ hA).2 0 (by omega)
          have hspot : spot' = none := by simpa [Addr.add] using World.cell?_spot hc0
          subst hspot
          refine .inr ⟨b', off', rfl, cell_lt (by simpa [Addr.add] using hc0), fun c hc' => ?_⟩
          have hc2 : c < L i := by simp at hc'; omega
          have h8 := (h7 _ hA).2 c (by omega)
          have e2 : (⟨b', off', none⟩ : Addr).add c = ⟨b', off' + c, none⟩ := by
            unfold Addr.add; split
            · subst_vars; rfl
            · rfl
          rw [e2] at h8
          rw [h8]
          simp [List.getD, hc2]
    · have hi' : i < len0 := by simpa using hi
      obtain ⟨h1, h2, h3, h4, h5, h6, h7⟩ := hx i (by omega)
      rw [eg i hi']
      refine ⟨by rw [List.length_take]; omega, fun n hn => h5 n (List.mem_of_mem_take hn)⟩
end
end Go.Proofs.Ytcpmdgbogdikiaa
