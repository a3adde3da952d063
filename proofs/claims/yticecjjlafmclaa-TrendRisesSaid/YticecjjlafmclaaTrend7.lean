/- A trend and a row that a law keeps beside it. -/
import Derived.Test.YticecjjlafmclaaTrend6
import Derived.Deep.Cut
namespace Go.Proofs.Yticecjjlafmclaa
open Go.ChangeShapes Go.WideShapes Go.ChangeAt Go.RowKit
set_option linter.unusedVariables false
set_option linter.unusedSimpArgs false

/-- A trend of these numbers, and beside it a row of those. -/
structure Two (B b : Nat) (sz : Int) (M L : List Int) (xt x : Value) (w : World) : Prop where
  t : TrX B b sz M xt w
  o : Ow B x L w
  n : owB x ≠ some b
  d : ∀ g, owB x = some g → owB xt ≠ some g
theorem Two.bel {B b : Nat} {sz : Int} {M L : List Int} {xt x : Value} {w w' : World} (h : Two B b sz M L xt x w) (k : Below w.heap.size w w') : Two B b sz M L xt x w' := ⟨h.t.bel k, h.o.bel k, h.n, h.d⟩
theorem Two.drew {B b : Nat} {sz : Int} {M L : List Int} {xt x : Value} {w : World} (h : Two B b sz M L xt x w) : Two B b sz M L xt x w.drew := ⟨h.t.drew, h.o, h.n, h.d⟩
theorem Two.put {B b : Nat} {sz : Int} {M M' L : List Int} {xt xt' x : Value} {w w' : World} (h : Two B b sz M L xt x w) (ht : TrX B b sz M' xt' w') (k : PK b xt w w') (hx : owB xt' = owB xt ∨ ∃ g, owB xt' = some g ∧ w.heap.size ≤ g) : Two B b sz M' L xt' x w' ∧ Below B w w' := by
  refine ⟨⟨ht, h.o.kept (fun g q hg => k.block g hg (fun e => h.n (by rw [q, e])) (h.d g q)), h.n, fun g q => ?_⟩, k.os, k.tape, k.output, k.size, fun j hj => ?_⟩
  · have hg := (h.o.lt q).2
    rcases hx with e | ⟨g2, e, h2⟩
    · rw [e]; exact h.d g q
    · rw [e]
      intro z
      injection z with z
      omega
  · have hB := h.t.t.hB
    exact k.block j (by omega) (by omega) (fun e => by have := (h.t.o.lt e).1; omega)
theorem Two.app {B b : Nat} {sz : Int} {M L L' : List Int} {xt x x' : Value} {w A w' : World} (h : Two B b sz M L xt x w) (hA : Below w.heap.size w A) (ho : Ow B x' L' w') (k : OwK x A w') (hx : owB x' = owB x ∨ ∃ g, owB x' = some g ∧ A.heap.size ≤ g) : Two B b sz M L' xt x' w' ∧ Below B w w' := by
  have hT := h.t.bel hA
  have hbl := h.t.h.lt
  have hAs := hA.size
  have hxt : ∀ g, owB xt = some g → g < w.heap.size ∧ owB x ≠ some g := fun g q => ⟨(h.t.o.lt q).2, fun e => h.d g e q⟩
  have hH := hT.h.ow k h.n
  have hO := hT.o.kept (w' := w') (fun g q hg => k.block g hg (hxt g q).2)
  have hB := h.t.t.hB
  have hBel : Below B w w' := (hA.mono hB.2).trans (k.below (h.o.bel hA) (by omega))
  refine ⟨⟨⟨hH, hO, h.t.n, ⟨⟨xt, hH, hO, h.t.n⟩, ⟨hB.1, Nat.le_trans hB.2 hBel.size⟩, h.t.t.s1, h.t.t.s2, h.t.t.len, h.t.t.bd⟩⟩, ho, ?_, fun g q => ?_⟩, hBel⟩
  · rcases hx with e | ⟨g, e, hg⟩
    · rw [e]; exact h.n
    · rw [e]
      intro z
      injection z with z
      omega
  · rcases hx with e | ⟨g2, e, hg⟩
    · exact h.d g (by rw [← e]; exact q)
    · intro z
      have := (hxt g z).1
      rw [e] at q
      injection q with q
      omega
theorem Two.cut {B b : Nat} {sz : Int} {M L : List Int} {xt : Value} {g off cap : Nat} {w : World} (h : Two B b sz M L xt (.slice (some ⟨g, off, none⟩) L.length cap) w) (hl : 1 ≤ L.length) : Two B b sz M (L.drop 1) xt (.slice (some ⟨g, off + 1, none⟩) (L.length - 1) (cap - 1)) w :=
  ⟨h.t, h.o.tail hl, h.n, h.d⟩
set_option maxRecDepth 100000 in
set_option maxHeartbeats 8000000 in
theorem trreset {B b : Nat} {sz : Int} {L : List Int} (w : World) (hT : Tr B b sz L w) : Calls Try.prog 18 #[.pointer (some ⟨b, 0, none⟩)] w fun e w' => e = .returned (.tuple #[]) ∧ Tr B b sz [] w' ∧ Below B w w' := by
  obtain ⟨x, hh, ho, hn⟩ := hT.ex
  have hHU := Lib.hid (hh.set 1 (.slice none 0 0) (by simp))
  have hOU := Lib.hid ((Only.refl b w).setCell (p := ⟨b, 1, none⟩) (.slice none 0 0))
  have HT := Lib.hid hT
  obtain ⟨c1, f1⟩ := hh.one 1 rfl
  clear hh ho hn hT
  go_enter Try.func18, Try.ntmps18
  go_wp2
  go_end0
  have s := HT.out.hB
  have k := hOU.out.below s.1
  exact ⟨rfl, ⟨⟨_, hHU.out, Ow.nil _ _, fun e => by cases e⟩, ⟨s.1, Nat.le_trans s.2 k.size⟩, HT.out.s1, HT.out.s2, by have := HT.out.s1; show (0 : Int) ≤ sz; omega, fun i hi => absurd hi (Nat.not_lt_zero _)⟩, k⟩
end Go.Proofs.Yticecjjlafmclaa
