/- Package label: sets of labels as they lie in memory. -/
import Derived.Test.YtffhhdjcodapjaaWord7
import Derived.Test.YtffhhdjcodapjaaObj
namespace Go.Proofs.Ytffhhdjcodapjaa
open Go.ChangeShapes Go.WideShapes Go.ChangeAt Go.RowKit
set_option linter.unusedVariables false
set_option linter.unusedSimpArgs false
def lbI (rows : List (List Value)) (i j : Nat) : Int := match (rows.getD i [])[j]? with
  | some (Value.int _ n) => n
  | _ => 0
def lbS (rows : List (List Value)) (i : Nat) : Bool := match (rows.getD i [])[3]? with
  | some (Value.bool b) => b
  | _ => false
/-- Labels one behind the other. -/
def Labs (w : World) (a : Option Addr) (n : Nat) (NU BI SC : Nat → Int) (SG : Nat → Bool) : Prop :=
  n = 0 ∨ ∃ b off, a = some ⟨b, off, none⟩ ∧ b < w.heap.size ∧ ∀ i, i < n → w.cell? ⟨b, off + i * 4, none⟩ = some (.int .i64 (NU i)) ∧ w.cell? ⟨b, off + i * 4 + 1, none⟩ = some (.int .i64 (BI i)) ∧ w.cell? ⟨b, off + i * 4 + 2, none⟩ = some (.int .i64 (SC i)) ∧ w.cell? ⟨b, off + i * 4 + 3, none⟩ = some (.bool (SG i))
theorem Labs.below {w w' : World} {a : Option Addr} {n : Nat} {NU BI SC : Nat → Int} {SG : Nat → Bool} (h : Labs w a n NU BI SC SG) (hb : Below w.heap.size w w') : Labs w' a n NU BI SC SG := by
  rcases h with h | ⟨b, off, e, hlt, hc⟩
  · exact .inl h
  · exact .inr ⟨b, off, e, Nat.lt_of_lt_of_le hlt hb.size, fun i hi => ⟨(bc hb hlt).trans (hc i hi).1, (bc hb hlt).trans (hc i hi).2.1, (bc hb hlt).trans (hc i hi).2.2.1, (bc hb hlt).trans (hc i hi).2.2.2⟩⟩
theorem Labs.at {w : World} {a : Option Addr} {n : Nat} {NU BI SC : Nat → Int} {SG : Nat → Bool} (h : Labs w a n NU BI SC SG) {i : Nat} (hi : i < n) :
    ∃ b off, a = some ⟨b, off, none⟩ ∧ b < w.heap.size ∧ w.cell? ⟨b, off + i * 4, none⟩ = some (.int .i64 (NU i)) ∧ w.cell? ⟨b, off + i * 4 + 1, none⟩ = some (.int .i64 (BI i)) ∧ w.cell? ⟨b, off + i * 4 + 2, none⟩ = some (.int .i64 (SC i)) ∧ w.cell? ⟨b, off + i * 4 + 3, none⟩ = some (.bool (SG i)) := by
  rcases h with h | ⟨b, off, e, hlt, hc⟩
  · omega
  · exact ⟨b, off, e, hlt, hc i hi⟩
theorem labs_of_tab {w : World} {t : Option Addr} {rows : List (List Value)} (h : Tab [some .i64, some .i64, some .i64, none] w t rows) : Labs w t rows.length (fun i => lbI rows i 0) (fun i => lbI rows i 1) (fun i => lbI rows i 2) (lbS rows) := by
  rcases Nat.eq_zero_or_pos rows.length with h0 | h0
  · exact .inl h0
  · obtain ⟨b, off, r, ea, hb, _, _, _⟩ := h.at h0
    refine .inr ⟨b, off, ea, hb, fun i hi => ?_⟩
    obtain ⟨b', off', r, ea', hb', hr, hfl, hcell⟩ := h.at hi
    rw [ea] at ea'
    injection ea' with ea'
    injection ea' with e1 e2
    subst e1 e2
    obtain ⟨x, _, rfl, _, hfl⟩ := hfl
    obtain ⟨y, _, rfl, _, hfl⟩ := hfl
    obtain ⟨z, _, rfl, _, hfl⟩ := hfl
    obtain ⟨s, _, rfl, hfl⟩ := hfl
    have q0 : lbI rows i 0 = x := by unfold lbI; rw [hr]; rfl
    have q1 : lbI rows i 1 = y := by unfold lbI; rw [hr]; rfl
    have q2 : lbI rows i 2 = z := by unfold lbI; rw [hr]; rfl
    have q3 : lbS rows i = s := by unfold lbS; rw [hr]; rfl
    simp only [q0, q1, q2, q3]
    exact ⟨hcell 0 _ rfl, hcell 1 _ rfl, hcell 2 _ rfl, hcell 3 _ rfl⟩
/-- Do no two have the same number? -/
def noR (n : Nat) (NU : Nat → Int) : Bool := decide (∀ i, i < n → ∀ k, k < i → NU i ≠ NU k)
def labB (n : Nat) (NU BI SC : Nat → Int) : Bool := decide (1 ≤ n) && decide (n ≤ 12) && decide (∀ i, i < n → lbR (NU i) (BI i) (SC i) = true) && noR n NU
theorem labB_ok {n : Nat} {NU BI SC : Nat → Int} (h : labB n NU BI SC = true) : 1 ≤ n ∧ n ≤ 12 ∧ ∀ i, i < n → lbR (NU i) (BI i) (SC i) = true := by
  unfold labB at h
  simp only [Bool.and_eq_true, decide_eq_true_eq] at h
  exact ⟨h.1.1.1, h.1.1.2, h.1.2⟩
end Go.Proofs.Ytffhhdjcodapjaa
