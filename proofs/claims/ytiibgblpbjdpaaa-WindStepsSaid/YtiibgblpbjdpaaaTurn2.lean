/- A turner in memory: its Once, its lock, its steps, and what else its block holds; walked. -/
import Derived.Test.YtiibgblpbjdpaaaOnce
import Derived.Test.YtiibgblpbjdpaaaTurn1
import Derived.Test.YtiibgblpbjdpaaaReg
namespace Go.Proofs.Ytiibgblpbjdpaaa
open Go.ChangeShapes Go.WideShapes Go.ChangeAt Go.RowKit
set_option linter.unusedVariables false
set_option linter.unusedSimpArgs false
/-- Block b begins with a turner: its Once (done, and its lock), and its steps; behind it lie the cells X. -/
structure TurO (b : Nat) (d s : Int) (g : Nat → Int) (X : List Value) (w : World) : Prop where
  lt : b < w.heap.size
  c0 : w.cell? ⟨b, 0, none⟩ = some (.int .u32 d)
  c1 : w.cell? ⟨b, 1, none⟩ = some (.int .i32 s)
  st : ∀ i, i < 28 → w.cell? ⟨b, 3 + i, none⟩ = some (.int .i64 (g i))
  ex : ∀ i v, X[i]? = some v → w.cell? ⟨b, 31 + i, none⟩ = some v
  fz : ∀ o, o < 31 + X.length → w.frozen? ⟨b, o, none⟩ = false
theorem TurO.blk {b : Nat} {d s : Int} {g : Nat → Int} {X : List Value} {w w' : World} (h : TurO b d s g X w) (e : w'.heap[b]? = w.heap[b]?) (hs : w.heap.size ≤ w'.heap.size) : TurO b d s g X w' :=
  ⟨Nat.lt_of_lt_of_le h.lt hs, (World.cell?_of_block (a := ⟨b, 0, none⟩) e).trans h.c0, (World.cell?_of_block (a := ⟨b, 1, none⟩) e).trans h.c1, fun i hi => (World.cell?_of_block (a := ⟨b, 3 + i, none⟩) e).trans (h.st i hi), fun i v hv => (World.cell?_of_block (a := ⟨b, 31 + i, none⟩) e).trans (h.ex i v hv), fun i hi => (World.frozen?_of_block (a := ⟨b, i, none⟩) e).trans (h.fz i hi)⟩
theorem TurO.below {b B : Nat} {d s : Int} {g : Nat → Int} {X : List Value} {w w' : World} (h : TurO b d s g X w) (k : Below B w w') (hb : b < B) : TurO b d s g X w' := h.blk (k.block b hb) k.size
theorem TurO.bel {b : Nat} {d s : Int} {g : Nat → Int} {X : List Value} {w w' : World} (h : TurO b d s g X w) (k : Below w.heap.size w w') : TurO b d s g X w' := h.below k h.lt
theorem TurO.beside {b b' : Nat} {d s : Int} {g : Nat → Int} {X : List Value} {w w' : World} (h : TurO b d s g X w) (k : Beside b' w w') (hb : b ≠ b') : TurO b d s g X w' := h.blk (k.block b h.lt hb) k.size
theorem TurO.drew {b : Nat} {d s : Int} {g : Nat → Int} {X : List Value} {w : World} (h : TurO b d s g X w) : TurO b d s g X w.drew := ⟨h.lt, h.c0, h.c1, h.st, h.ex, h.fz⟩
theorem tne {b i j : Nat} (h : i ≠ j) : (⟨b, i, none⟩ : Addr) ≠ ⟨b, j, none⟩ := fun e => h (by injection e)
theorem TurO.set0 {b : Nat} {d s : Int} {g : Nat → Int} {X : List Value} {w : World} (h : TurO b d s g X w) (v : Int) : TurO b v s g X (w.setCell ⟨b, 0, none⟩ (.int .u32 v)) :=
  ⟨by simpa using h.lt, World.cell?_setCell_same w _ _ h.c0, (World.cell?_setCell_other w _ _ _ (tne (by omega))).trans h.c1, fun i hi => (World.cell?_setCell_other w _ _ _ (tne (by omega))).trans (h.st i hi), fun i x hx => (World.cell?_setCell_other w _ _ _ (tne (by omega))).trans (h.ex i x hx), fun o ho => by have := h.fz o ho; simpa using this⟩
theorem TurO.set1 {b : Nat} {d s : Int} {g : Nat → Int} {X : List Value} {w : World} (h : TurO b d s g X w) (v : Int) : TurO b d v g X (w.setCell ⟨b, 1, none⟩ (.int .i32 v)) :=
  ⟨by simpa using h.lt, (World.cell?_setCell_other w _ _ _ (tne (by omega))).trans h.c0, World.cell?_setCell_same w _ _ h.c1, fun i hi => (World.cell?_setCell_other w _ _ _ (tne (by omega))).trans (h.st i hi), fun i x hx => (World.cell?_setCell_other w _ _ _ (tne (by omega))).trans (h.ex i x hx), fun o ho => by have := h.fz o ho; simpa using this⟩
theorem TurO.setS {b : Nat} {d s : Int} {g : Nat → Int} {X : List Value} {w : World} (h : TurO b d s g X w) (k : Nat) (hk : k < 28) (v : Int) : TurO b d s (fun i => if i = k then v else g i) X (w.setCell ⟨b, 3 + k, none⟩ (.int .i64 v)) :=
  ⟨by simpa using h.lt, (World.cell?_setCell_other w _ _ _ (tne (by omega))).trans h.c0, (World.cell?_setCell_other w _ _ _ (tne (by omega))).trans h.c1, fun i hi => by
    by_cases e : i = k
    · subst e
      rw [if_pos rfl]
      exact World.cell?_setCell_same w _ _ (h.st i hi)
    · rw [if_neg e]
      exact (World.cell?_setCell_other w _ _ _ (tne (by omega))).trans (h.st i hi), fun i x hx => (World.cell?_setCell_other w _ _ _ (tne (by omega))).trans (h.ex i x hx), fun o ho => by have := h.fz o ho; simpa using this⟩
theorem TurO.fn {b : Nat} {d s : Int} {g g' : Nat → Int} {X : List Value} {w : World} (h : TurO b d s g X w) (e : ∀ i, i < 28 → g i = g' i) : TurO b d s g' X w := ⟨h.lt, h.c0, h.c1, fun i hi => by rw [← e i hi]; exact h.st i hi, h.ex, h.fz⟩
theorem TurO.cos {b : Nat} {d s : Int} {X : List Value} {w : World} (h : TurO b d s tG X w) (k : Nat) (hk : k < 14) : w.cell? ⟨b, 3 + k, none⟩ = some (.int .i64 (tC k)) := by
  have := h.st k (by omega)
  unfold tG at this
  rwa [if_pos hk] at this
theorem TurO.sin {b : Nat} {d s : Int} {X : List Value} {w : World} (h : TurO b d s tG X w) (k : Nat) (hk : k < 14) : w.cell? ⟨b, 17 + k, none⟩ = some (.int .i64 (tS k)) := by
  have := h.st (14 + k) (by omega)
  unfold tG at this
  rwa [if_neg (by omega), show 14 + k - 14 = k by omega, show 3 + (14 + k) = 17 + k by omega] at this
end Go.Proofs.Ytiibgblpbjdpaaa
