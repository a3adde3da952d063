/- Package tape: a reader's one byte; walked. -/
import Derived.Test.YtpcbnoefgknihaaTape7
import Derived.WalkSmall
import Derived.Test.YtpcbnoefgknihaaStm3
namespace Go.Proofs.Ytpcbnoefgknihaa
open Go.ChangeShapes Go.WideShapes Go.ChangeAt Go.RowKit
set_option linter.unusedVariables false
set_option linter.unusedSimpArgs false
theorem RowIs.only {k : IntKind} {b : Nat} {w w' : World} {a : Option Addr} {l : List Int} (h : RowIs k w a l) (o : Only b w w') (hb : 1 ≤ l.length → ∀ p, a = some p → p.block ≠ b) : RowIs k w' a l := by
  rcases h with rfl | ⟨g, off, rfl, hlt, hc⟩
  · exact .inl rfl
  · refine .inr ⟨g, off, rfl, by rw [o.size]; exact hlt, fun i hi => ?_⟩
    rw [o.cell (p := ⟨g, off + i, none⟩) (show g ≠ b from hb (by omega) ⟨g, off, none⟩ rfl)]
    exact hc i hi
def pqT : Value := .iface 9 (.string { data := #[109, 97, 108, 102, 111, 114, 109, 101, 100, 32, 116, 97, 112, 101] })
/-- A reader at block b: L is what it still has. -/
def Rd (X b : Nat) (L : List Int) (w : World) : Prop := ∃ a c, w.cell? ⟨b, 0, none⟩ = some (.slice a L.length c) ∧ w.frozen? ⟨b, 0, none⟩ = false ∧ L.length ≤ c ∧ RowIs .u8 w a L ∧ X ≤ b ∧ (1 ≤ L.length → ∀ p, a = some p → p.block < X)
set_option maxRecDepth 100000 in
set_option maxHeartbeats 8000000 in
theorem tone_no (b : Nat) (w : World) {X : Nat} (h : Rd X b [] w) : Calls Try.prog 57 #[.pointer (some ⟨b, 0, none⟩)] w fun e w' => e = .panicked [{ v := pqT, recovered := false }] ∧ w = w' := by
  obtain ⟨a, c, hc, -, -, -, -, -⟩ := h
  have hc : w.cell? ⟨b, 0, none⟩ = some (.slice a 0 c) := hc
  go_enter Try.func57, Try.ntmps57
  go_wp2
  exact ⟨rfl, rfl, rfl⟩
set_option maxRecDepth 100000 in
set_option maxHeartbeats 8000000 in
theorem tone_ok (b : Nat) (x : Int) (L : List Int) (w : World) {X : Nat} (h : Rd X b (x :: L) w) : Calls Try.prog 57 #[.pointer (some ⟨b, 0, none⟩)] w fun e w' => e = .returned (.int .u8 x) ∧ Rd X b L w' ∧ Only b w w' := by
  obtain ⟨a, c, hc, hz, hcap, hr, hX, hne⟩ := h
  have HX := Lib.hid hX
  obtain ⟨g, o, rfl, -, k0⟩ := hr.at (i := 0) (by simp)
  have HNE := Lib.hid (hne (by simp) _ rfl)
  have k0 : w.cell? ⟨g, o, none⟩ = some (.int .u8 x) := k0
  have HO := Lib.hid (fun y => show Only b w (w.setCell ⟨b, 0, none⟩ y) from (Only.refl b w).setCell (p := ⟨b, 0, none⟩) y)
  have HS := Lib.hid (fun y => show (w.setCell ⟨b, 0, none⟩ y).cell? ⟨b, 0, none⟩ = some y from World.cell?_setCell_same _ _ _ hc)
  have HF := Lib.hid (fun y => show (w.setCell ⟨b, 0, none⟩ y).frozen? ⟨b, 0, none⟩ = false from by simp [hz])
  obtain ⟨n, hn⟩ : ∃ n, (x :: L).length = n := ⟨_, rfl⟩
  rw [hn] at hc hcap
  have hn : n = L.length + 1 := by simp at hn; omega
  have h0 : (0 : Int) < (n : Int) := by omega
  have h1 : (1 : Int) ≤ (n : Int) := by omega
  have h1c : (1 : Int) ≤ (c : Int) := by omega
  have h2 : ¬ (n : Int) = 0 := by omega
  have h3 : n ≠ 0 := by omega
  have e1 : n - 1 = L.length := by omega
  have HC := Lib.hid hcap
  have HN := Lib.hid hn
  by_cases q : c = 1
  · have HR := Lib.hid (show RowIs .u8 w (some ⟨g, o, none⟩) L from .inl (by cases L with | nil => rfl | cons y r => simp at hn; omega))
    clear hr hne
    generalize hL : L.length = m at *
    have HL := Lib.hid hL
    subst q
    go_enter Try.func57, Try.ntmps57
    go_wp2
    go_ret
    exact ⟨rfl, ⟨_, _, by rw [HL.out]; exact HS.out _, HF.out _, by have := HL.out; have := HC.out; have := HN.out; omega, HR.out.only (HO.out _) (fun _ p e => by injection e with e; subst e; exact Nat.ne_of_lt (Nat.lt_of_lt_of_le HNE.out HX.out)), HX.out, fun _ p e => by injection e with e; subst e; exact HNE.out⟩, HO.out _⟩
  · have HR := Lib.hid (show RowIs .u8 w (some ⟨g, o + 1, none⟩) L from rowIs_drop hr 1 (by simp))
    have q2 : c - 1 ≠ 0 := by omega
    clear hr hne
    generalize hL : L.length = m at *
    have HL := Lib.hid hL
    go_enter Try.func57, Try.ntmps57
    go_wp2
    go_ret
    exact ⟨rfl, ⟨_, _, by rw [HL.out]; exact HS.out _, HF.out _, by have := HL.out; have := HC.out; have := HN.out; omega, HR.out.only (HO.out _) (fun _ p e => by injection e with e; subst e; exact Nat.ne_of_lt (Nat.lt_of_lt_of_le HNE.out HX.out)), HX.out, fun _ p e => by injection e with e; subst e; exact HNE.out⟩, HO.out _⟩
end Go.Proofs.Ytpcbnoefgknihaa
