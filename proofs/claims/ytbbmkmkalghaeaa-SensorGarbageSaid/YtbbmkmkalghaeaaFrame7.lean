/- The law FrameBack; walked. -/
import Derived.Test.YtbbmkmkalghaeaaFrame5
import Derived.Deep.Cut
namespace Go.Proofs.Ytbbmkmkalghaeaa
open Go.ChangeShapes Go.WideShapes Go.ChangeAt Go.RowKit
set_option linter.unusedVariables false
set_option linter.unusedSimpArgs false

theorem tk_no {l : List Int} (h : tkE l ≠ 0) : tkI l = 0 ∧ tkS l = 0 ∧ tkV l = 0 ∧ tkT l = 0 := by
  refine ⟨?_, ?_, ?_, ?_⟩
  · unfold tkI; rw [if_neg h]
  · unfold tkS; rw [if_neg h]
  · unfold tkV; rw [if_neg h]
  · unfold tkT; rw [if_neg h]
theorem tkE_tot {l : List Int} (h : tot l ≠ 0) : tkE l ≠ 0 := fun e => h (tkE_ok e).2.2
/-- A frame in block s, which may be written. -/
structure Fr4 (s : Nat) (a b c d : Int) (v : World) : Prop where
  c0 : v.cell? ⟨s, 0, none⟩ = some (.int .i64 a)
  c1 : v.cell? ⟨s, 1, none⟩ = some (.int .i64 b)
  c2 : v.cell? ⟨s, 2, none⟩ = some (.int .i64 c)
  c3 : v.cell? ⟨s, 3, none⟩ = some (.int .i64 d)
  f0 : v.frozen? ⟨s, 0, none⟩ = false
  f1 : v.frozen? ⟨s, 1, none⟩ = false
  f2 : v.frozen? ⟨s, 2, none⟩ = false
  f3 : v.frozen? ⟨s, 3, none⟩ = false
  lt : s < v.heap.size
theorem Fr4.keep {s : Nat} {a b c d : Int} {v v' : World} (h : Fr4 s a b c d v) (k : Below v.heap.size v v') : Fr4 s a b c d v' :=
  ⟨(k.cell (p := ⟨s, 0, none⟩) h.lt).trans h.c0, (k.cell (p := ⟨s, 1, none⟩) h.lt).trans h.c1, (k.cell (p := ⟨s, 2, none⟩) h.lt).trans h.c2, (k.cell (p := ⟨s, 3, none⟩) h.lt).trans h.c3, (k.frozen (p := ⟨s, 0, none⟩) h.lt).trans h.f0, (k.frozen (p := ⟨s, 1, none⟩) h.lt).trans h.f1, (k.frozen (p := ⟨s, 2, none⟩) h.lt).trans h.f2, (k.frozen (p := ⟨s, 3, none⟩) h.lt).trans h.f3, Nat.lt_of_lt_of_le h.lt k.size⟩
theorem f4_alloc (w : World) (a b c d : Int) : ∃ v, v = w.alloc (.cells #[.int .i64 a, .int .i64 b, .int .i64 c, .int .i64 d] 45) ∧ Below w.heap.size w v ∧ Fr4 w.heap.size a b c d v ∧ v.heap.size = w.heap.size + 1 :=
  ⟨_, rfl, (Below.refl _ _).alloc (Nat.le_refl _) _, ⟨by go_simp, by go_simp, by go_simp, by go_simp, by first | (simp; done) | go_simp, by first | (simp; done) | go_simp, by first | (simp; done) | go_simp, by first | (simp; done) | go_simp, by simp⟩, by simp⟩
theorem Fr4.laid {s : Nat} {a b c d : Int} {v : World} (h : Fr4 s a b c d v) (x0 x1 x2 x3 : Int) : ∃ u, u = (((v.setCell ⟨s, 0, none⟩ (.int .i64 x0)).setCell ⟨s, 1, none⟩ (.int .i64 x1)).setCell ⟨s, 2, none⟩ (.int .i64 x2)).setCell ⟨s, 3, none⟩ (.int .i64 x3) ∧ Fr4 s x0 x1 x2 x3 u ∧ Below s v u := by
  refine ⟨_, rfl, ⟨?_, ?_, ?_, ?_, by simpa using h.f0, by simpa using h.f1, by simpa using h.f2, by simpa using h.f3, by simpa using h.lt⟩, ((((Below.refl _ _).setCell (by exact Nat.le_refl _) _).setCell (by exact Nat.le_refl _) _).setCell (by exact Nat.le_refl _) _).setCell (by exact Nat.le_refl _) _⟩
  · rw [World.cell?_setCell_other _ _ _ _ (by simp), World.cell?_setCell_other _ _ _ _ (by simp), World.cell?_setCell_other _ _ _ _ (by simp)]
    exact World.cell?_setCell_same _ _ _ h.c0
  · rw [World.cell?_setCell_other _ _ _ _ (by simp), World.cell?_setCell_other _ _ _ _ (by simp)]
    exact World.cell?_setCell_same _ _ _ ((World.cell?_setCell_other _ _ _ _ (by simp)).trans h.c1)
  · rw [World.cell?_setCell_other _ _ _ _ (by simp)]
    exact World.cell?_setCell_same _ _ _ ((World.cell?_setCell_other _ _ _ _ (by simp)).trans ((World.cell?_setCell_other _ _ _ _ (by simp)).trans h.c2))
  · exact World.cell?_setCell_same _ _ _ ((World.cell?_setCell_other _ _ _ _ (by simp)).trans ((World.cell?_setCell_other _ _ _ _ (by simp)).trans ((World.cell?_setCell_other _ _ _ _ (by simp)).trans h.c3)))
theorem Fr4.of_grown {s g : Nat} {a b c d : Int} {v v' : World} (h : Fr4 s a b c d v) (k : v.grownBy v' (some g)) (hs : s ≠ g) : Fr4 s a b c d v' := by
  have e := k.block s h.lt (by simpa using hs)
  exact ⟨(World.cell?_of_block e).trans h.c0, (World.cell?_of_block e).trans h.c1, (World.cell?_of_block e).trans h.c2, (World.cell?_of_block e).trans h.c3, (World.frozen?_of_block e).trans h.f0, (World.frozen?_of_block e).trans h.f1, (World.frozen?_of_block e).trans h.f2, (World.frozen?_of_block e).trans h.f3, Nat.lt_of_lt_of_le h.lt k.size⟩
theorem bvals_set (l : List Int) (k : Nat) (n : Int) : (bvals l).set k (.int .u8 n) = bvals (l.set k n) := by simp [bvals]
end Go.Proofs.Ytbbmkmkalghaeaa
