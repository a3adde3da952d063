/- An atmosphere in memory: new, made ready; walked. -/
import Derived.Test.YtecpmffmmiogfaaGreatOnce
import Derived.Test.YtecpmffmmiogfaaGreatAir1
import Derived.Test.YtecpmffmmiogfaaGreatReg
namespace Go.Proofs.YtecpmffmmiogfaaGreat
open Go.ChangeShapes Go.WideShapes Go.ChangeAt Go.RowKit
set_option linter.unusedVariables false
set_option linter.unusedSimpArgs false
/-- Block b holds an atmosphere: its Once (done, and its lock), and its steps. -/
structure AirO (b : Nat) (d s : Int) (g : Nat → Int) (w : World) : Prop where
  lt : b < w.heap.size
  c0 : w.cell? ⟨b, 0, none⟩ = some (.int .u32 d)
  c1 : w.cell? ⟨b, 1, none⟩ = some (.int .i32 s)
  st : ∀ i, i < 2101 → w.cell? ⟨b, 3 + i, none⟩ = some (.int .i64 (g i))
  fz : ∀ o, o < 2104 → w.frozen? ⟨b, o, none⟩ = false
theorem AirO.blk {b : Nat} {d s : Int} {g : Nat → Int} {w w' : World} (h : AirO b d s g w) (e : w'.heap[b]? = w.heap[b]?) (hs : w.heap.size ≤ w'.heap.size) : AirO b d s g w' :=
  ⟨Nat.lt_of_lt_of_le h.lt hs, (World.cell?_of_block (a := ⟨b, 0, none⟩) e).trans h.c0, (World.cell?_of_block (a := ⟨b, 1, none⟩) e).trans h.c1, fun i hi => (World.cell?_of_block (a := ⟨b, 3 + i, none⟩) e).trans (h.st i hi), fun i hi => (World.frozen?_of_block (a := ⟨b, i, none⟩) e).trans (h.fz i hi)⟩
theorem AirO.below {b B : Nat} {d s : Int} {g : Nat → Int} {w w' : World} (h : AirO b d s g w) (k : Below B w w') (hb : b < B) : AirO b d s g w' := h.blk (k.block b hb) k.size
theorem AirO.bel {b : Nat} {d s : Int} {g : Nat → Int} {w w' : World} (h : AirO b d s g w) (k : Below w.heap.size w w') : AirO b d s g w' := h.below k h.lt
theorem AirO.beside {b b' : Nat} {d s : Int} {g : Nat → Int} {w w' : World} (h : AirO b d s g w) (k : Beside b' w w') (hb : b ≠ b') : AirO b d s g w' := h.blk (k.block b h.lt hb) k.size
theorem AirO.drew {b : Nat} {d s : Int} {g : Nat → Int} {w : World} (h : AirO b d s g w) : AirO b d s g w.drew := ⟨h.lt, h.c0, h.c1, h.st, h.fz⟩
theorem ane {b i j : Nat} (h : i ≠ j) : (⟨b, i, none⟩ : Addr) ≠ ⟨b, j, none⟩ := fun e => h (by injection e)
theorem AirO.set0 {b : Nat} {d s : Int} {g : Nat → Int} {w : World} (h : AirO b d s g w) (v : Int) : AirO b v s g (w.setCell ⟨b, 0, none⟩ (.int .u32 v)) :=
  ⟨by simpa using h.lt, World.cell?_setCell_same w _ _ h.c0, (World.cell?_setCell_other w _ _ _ (ane (by omega))).trans h.c1, fun i hi => (World.cell?_setCell_other w _ _ _ (ane (by omega))).trans (h.st i hi), fun o ho => by have := h.fz o ho; simpa using this⟩
theorem AirO.set1 {b : Nat} {d s : Int} {g : Nat → Int} {w : World} (h : AirO b d s g w) (v : Int) : AirO b d v g (w.setCell ⟨b, 1, none⟩ (.int .i32 v)) :=
  ⟨by simpa using h.lt, (World.cell?_setCell_other w _ _ _ (ane (by omega))).trans h.c0, World.cell?_setCell_same w _ _ h.c1, fun i hi => (World.cell?_setCell_other w _ _ _ (ane (by omega))).trans (h.st i hi), fun o ho => by have := h.fz o ho; simpa using this⟩
theorem AirO.setS {b : Nat} {d s : Int} {g : Nat → Int} {w : World} (h : AirO b d s g w) (k : Nat) (hk : k < 2101) (v : Int) : AirO b d s (fun i => if i = k then v else g i) (w.setCell ⟨b, 3 + k, none⟩ (.int .i64 v)) :=
  ⟨by simpa using h.lt, (World.cell?_setCell_other w _ _ _ (ane (by omega))).trans h.c0, (World.cell?_setCell_other w _ _ _ (ane (by omega))).trans h.c1, fun i hi => by
    by_cases e : i = k
    · subst e
      rw [if_pos rfl]
      exact World.cell?_setCell_same w _ _ (h.st i hi)
    · rw [if_neg e]
      exact (World.cell?_setCell_other w _ _ _ (ane (by omega))).trans (h.st i hi), fun o ho => by have := h.fz o ho; simpa using this⟩
theorem AirO.fn {b : Nat} {d s : Int} {g g' : Nat → Int} {w : World} (h : AirO b d s g w) (e : ∀ i, i < 2101 → g i = g' i) : AirO b d s g' w := ⟨h.lt, h.c0, h.c1, fun i hi => by rw [← e i hi]; exact h.st i hi, h.fz⟩
set_option maxRecDepth 100000 in
set_option maxHeartbeats 8000000 in
theorem aalt (i : Int) (w : World) (h : 0 ≤ i ∧ i ≤ 100000) : Calls Tryz.prog 34 #[.int .i64 i] w fun e w' => e = .returned (.int .i64 (-100000 + i * 1000)) ∧ w = w' := by
  have m1 : IntKind.i64.wrap (i * 1000) = i * 1000 := by rw [IntKind.wrap_i64]; omega
  have m2 : IntKind.i64.wrap (-100000 + i * 1000) = -100000 + i * 1000 := by rw [IntKind.wrap_i64]; omega
  go_enter Tryz.func34, Tryz.ntmps34
  go_wp2
  go_ret
  exact ⟨rfl, rfl⟩
set_option maxRecDepth 100000 in
set_option maxHeartbeats 8000000 in
theorem afactors (k : Nat) (w : World) (hk : k < 2100) : Calls Tryz.prog 61 #[.int .i64 (k : Int)] w fun e w' => e = .returned (.tuple #[.int .i64 (alN k : Int), .int .i64 (amN k : Int)]) ∧ Below w.heap.size w w' := by
  have AL := Lib.hid (aalt (k : Int) w (by omega))
  have TE := fun u => atemp_any (-100000 + (k : Int) * 1000 + 500) u
  rw [at_arT k hk] at TE
  have b := atN_bd k
  have m0 : IntKind.i64.wrap (-100000 + (k : Int) * 1000 + 500) = -100000 + (k : Int) * 1000 + 500 := by rw [IntKind.wrap_i64]; omega
  have l1 : (alN k : Int) = 2 * (287053 * (atN k : Int)) - 98066500 := by unfold alN; omega
  have l2 : (amN k : Int) = 2 * (287053 * (atN k : Int)) + 98066500 := by unfold amN; omega
  rw [l1, l2]
  clear l1 l2
  generalize -100000 + (k : Int) * 1000 = a at *
  generalize atN k = t at *
  replace TE := Lib.hid TE
  obtain ⟨D, eD⟩ : ∃ D : Int, D = 287053 * (t : Int) := ⟨_, rfl⟩
  rw [← eD]
  have m1 : IntKind.i64.wrap (287053 * (t : Int)) = D := by rw [← eD, IntKind.wrap_i64]; omega
  have m2 : IntKind.i64.wrap (2 * D) = 2 * D := by rw [IntKind.wrap_i64]; omega
  have m3 : IntKind.i64.wrap (2 * D - 98066500) = 2 * D - 98066500 := by rw [IntKind.wrap_i64]; omega
  have m4 : IntKind.i64.wrap (2 * D + 98066500) = 2 * D + 98066500 := by rw [IntKind.wrap_i64]; omega
  replace eD := Lib.hid eD
  go_enter Tryz.func61, Tryz.ntmps61
  go_wp2_with fail
  refine AL.out.mono ?_
  rintro e w1 ⟨rfl, rfl⟩
  go_wp2_with fail
  refine (TE.out _).mono ?_
  rintro e w2 ⟨rfl, hb⟩
  go_wp2
  go_ret2
  exact ⟨rfl, hb⟩
end Go.Proofs.YtecpmffmmiogfaaGreat
