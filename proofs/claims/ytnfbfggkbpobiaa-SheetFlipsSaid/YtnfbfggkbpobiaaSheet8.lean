/- A sheet flipped; walked. -/
import Derived.Test.YtnfbfggkbpobiaaSheet7
import Derived.Test.YtnfbfggkbpobiaaTree
import Derived.Deep.Cut
import Derived.Deep.OwnRows
namespace Go.Proofs.Ytnfbfggkbpobiaa
open Go.ChangeShapes Go.WideShapes Go.ChangeAt Go.RowKit
set_option linter.unusedVariables false
set_option linter.unusedSimpArgs false

def colZ (n : Nat) (Z : List (List Int)) (j : Nat) : List Int := (List.range n).map (fun i => (Z.getD i []).getD j 0)
def flZ (n m : Nat) (Z : List (List Int)) : List (List Int) := (List.range m).map (colZ n Z)
theorem colZ_len (n : Nat) (Z : List (List Int)) (j : Nat) : (colZ n Z j).length = n := by simp [colZ]
theorem colZ_at {n : Nat} (Z : List (List Int)) (j : Nat) {i : Nat} (hi : i < n) : (colZ n Z j).getD i 0 = (Z.getD i []).getD j 0 := by simp [colZ, List.getD, hi]
theorem flZ_len (n m : Nat) (Z : List (List Int)) : (flZ n m Z).length = m := by simp [flZ]
theorem flZ_at (n : Nat) {m : Nat} (Z : List (List Int)) {j : Nat} (hj : j < m) : (flZ n m Z).getD j [] = colZ n Z j := by simp [flZ, List.getD, hj]
theorem ginfo : (Try.prog.info? 22).map (fun i => (i.zero, i.size, i.bytes)) = some (some (.slice none 0 0), 1, 24) := by kernel_rfl
theorem one_slice (a : Option Addr) (n c : Nat) : ∀ u ∈ [Value.slice a n c], u.oneCell' = true := fun u hu => by simp at hu; subst hu; rfl
theorem RowIs.of_blk {w w' : World} {g : Nat} {l : List Int} (h : RowIs .i64 w (some ⟨g, 0, none⟩) l) (hlt : g < w'.heap.size) (e : w'.heap[g]? = w.heap[g]?) : RowIs .i64 w' (some ⟨g, 0, none⟩) l := by
  rcases h with rfl | ⟨b, off, e1, _, hc⟩
  · exact .inl rfl
  · injection e1 with e1
    injection e1 with e1 e2
    subst e1 e2
    exact .inr ⟨_, _, rfl, hlt, fun i hi => (World.cell?_of_block e).trans (hc i hi)⟩
/-- The rows' values. -/
def gvals (G : Nat → Nat) (n j : Nat) : List Value := (List.range j).map (fun t => .slice (some ⟨G t, 0, none⟩) n n)
theorem gvals_snoc (G : Nat → Nat) (n j r : Nat) : gvals G n j ++ [.slice (some ⟨r, 0, none⟩) n n] = gvals (fun t => if t = j then r else G t) n (j + 1) := by
  unfold gvals
  rw [List.range_succ, List.map_append]
  congr 1
  · exact List.map_congr_left fun t ht => by
      show _ = Value.slice (some ⟨if t = j then r else G t, 0, none⟩) n n
      rw [if_neg (by have := List.mem_range.1 ht; omega)]
  · simp
/-- A sheet in the making: block s holds it, its rows are the call's own and new. -/
structure Flp (B s : Nat) (x y : Value) (G : Nat → Nat) (n : Nat) (col : Nat → List Int) (j : Nat) (vz : Value) (w v : World) : Prop where
  oz : v.ownsRow B 22 1 vz j (gvals G n j)
  c0 : v.cell? ⟨s, 0, none⟩ = some x
  c1 : v.cell? ⟨s, 1, none⟩ = some y
  c2 : v.cell? ⟨s, 2, none⟩ = some vz
  f2 : v.frozen? ⟨s, 2, none⟩ = false
  rows : ∀ t, t < j → B ≤ G t ∧ G t < v.heap.size ∧ vz.ownBlock ≠ some (G t) ∧ RowIs .i64 v (some ⟨G t, 0, none⟩) (col t)
  gr : w.grownBy v (some s)
  hB : w.heap.size = B
  hs : s < B
theorem Flp.lt {B s : Nat} {x y : Value} {G : Nat → Nat} {n : Nat} {col : Nat → List Int} {j : Nat} {vz : Value} {w v : World} (h : Flp B s x y G n col j vz w v) : B ≤ v.heap.size := by have := h.gr.size; rw [h.hB] at this; exact this
theorem Flp.keep {B s : Nat} {x y : Value} {G : Nat → Nat} {n : Nat} {col : Nat → List Int} {j : Nat} {vz : Value} {w v v' : World} (h : Flp B s x y G n col j vz w v) (k : Below v.heap.size v v') : Flp B s x y G n col j vz w v' := by
  have hlt := h.lt
  have hs := h.hs
  have hB := h.hB
  exact ⟨h.oz.kept (row := none) ⟨k.os, k.tape, k.output, k.size, fun j hj _ => k.block j hj⟩ (by cases vz.ownBlock <;> simp), (k.cell (p := ⟨s, 0, none⟩) (by show s < _; omega)).trans h.c0, (k.cell (p := ⟨s, 1, none⟩) (by show s < _; omega)).trans h.c1, (k.cell (p := ⟨s, 2, none⟩) (by show s < _; omega)).trans h.c2, (k.frozen (p := ⟨s, 2, none⟩) (by show s < _; omega)).trans h.f2,
    fun t ht => by obtain ⟨a, b, c, d⟩ := h.rows t ht; exact ⟨a, Nat.lt_of_lt_of_le b k.size, c, d.below k⟩, ⟨k.os.trans h.gr.os, k.tape.trans h.gr.tape, k.output.trans h.gr.output, Nat.le_trans h.gr.size k.size, fun i hi hne => (k.block i (by omega)).trans (h.gr.block i hi hne)⟩, h.hB, h.hs⟩
theorem Flp.low {B s : Nat} {x y : Value} {G : Nat → Nat} {n : Nat} {col : Nat → List Int} {j : Nat} {vz : Value} {w v v' : World} (h : Flp B s x y G n col j vz w v) (o : Obj) (hg : (v.alloc o).grownBy v' vz.ownBlock) :
    (∀ k, k < v.heap.size → some k ≠ vz.ownBlock → v'.heap[k]? = v.heap[k]?) ∧ v'.cell? ⟨s, 0, none⟩ = some x ∧ v'.cell? ⟨s, 1, none⟩ = some y ∧ v'.cell? ⟨s, 2, none⟩ = some vz ∧ v'.frozen? ⟨s, 2, none⟩ = false ∧ w.grownBy v' (some s) ∧ v.heap.size + 1 ≤ v'.heap.size := by
  have hlt := h.lt
  have hs := h.hs
  have hB := h.hB
  have hb : ∀ k, k < v.heap.size → some k ≠ vz.ownBlock → v'.heap[k]? = v.heap[k]? := fun k hk hne => (hg.block k (by simp; omega) hne).trans ((World.grownBy_alloc v o none).block k hk (by simp))
  have hlow : ∀ k, k < B → some k ≠ vz.ownBlock := fun k hk e => by have := (h.oz.lt k e.symm).1; omega
  have e := hb s (by omega) (hlow s hs)
  have hz := hg.size
  simp only [World.size_alloc] at hz
  exact ⟨hb, (World.cell?_of_block e).trans h.c0, (World.cell?_of_block e).trans h.c1, (World.cell?_of_block e).trans h.c2, (World.frozen?_of_block e).trans h.f2,
    ⟨hg.os.trans h.gr.os, hg.tape.trans h.gr.tape, hg.output.trans h.gr.output, by omega, fun k hk hne => (hb k (by omega) (hlow k (by omega))).trans (h.gr.block k hk hne)⟩, hz⟩
theorem Flp.step {B s : Nat} {x y : Value} {G : Nat → Nat} {n : Nat} {col : Nat → List Int} {j : Nat} {vz : Value} {w v v' : World} (h : Flp B s x y G n col j vz w v) (o : Obj) {r g cap : Nat}
    (ho : v'.ownsRow B 22 1 (.slice (some ⟨g, 0, none⟩) (j + 1) cap) (j + 1) (gvals G n j ++ [.slice (some ⟨r, 0, none⟩) n n])) (hg : (v.alloc o).grownBy v' vz.ownBlock) (hgg : vz.ownBlock = some g ∨ g = (v.alloc o).heap.size)
    (hr : RowIs .i64 v (some ⟨r, 0, none⟩) (col j)) (hr1 : B ≤ r) (hr2 : r < v.heap.size) (hr3 : vz.ownBlock ≠ some r) :
    Flp B s x y (fun t => if t = j then r else G t) n col (j + 1) (.slice (some ⟨g, 0, none⟩) (j + 1) cap) w (v'.setCell ⟨s, 2, none⟩ (.slice (some ⟨g, 0, none⟩) (j + 1) cap)) := by
  obtain ⟨hb, d0, d1, d2, e2, gr, hz⟩ := h.low o hg
  have hs := h.hs
  have hB := h.hB
  have hlt := h.lt
  refine ⟨own_set (by rw [← gvals_snoc]; exact ho) _ _ (by show s < B; omega), ?_, ?_, World.cell?_setCell_same v' _ _ d2, by simpa using e2, ?_, ?_, h.hB, h.hs⟩
  · rw [World.cell?_setCell_other v' ⟨s, 2, none⟩ ⟨s, 0, none⟩ _ (by simp)]; exact d0
  · rw [World.cell?_setCell_other v' ⟨s, 2, none⟩ ⟨s, 1, none⟩ _ (by simp)]; exact d1
  · have key : ∀ k, B ≤ k → k < v.heap.size → vz.ownBlock ≠ some k → ∀ l, RowIs .i64 v (some ⟨k, 0, none⟩) l → B ≤ k ∧ k < (v'.setCell ⟨s, 2, none⟩ (.slice (some ⟨g, 0, none⟩) (j + 1) cap)).heap.size ∧ (Value.slice (some ⟨g, 0, none⟩) (j + 1) cap).ownBlock ≠ some k ∧ RowIs .i64 (v'.setCell ⟨s, 2, none⟩ (.slice (some ⟨g, 0, none⟩) (j + 1) cap)) (some ⟨k, 0, none⟩) l := fun k h1 h2 h3 l hl => by
      refine ⟨h1, by simp; omega, ?_, ?_⟩
      · show some g ≠ some k
        intro e
        injection e with e
        subst e
        rcases hgg with e | e
        · exact h3 e
        · simp at e; omega
      · exact (hl.of_blk (by omega) (hb k h2 (fun e => h3 e.symm))).aside3 _ _ (by show s ≠ k; omega)
    intro t ht
    by_cases e : t = j
    · subst e
      simp only [if_true]
      exact key r hr1 hr2 hr3 _ hr
    · simp only [if_neg e]
      obtain ⟨a, b, c, d⟩ := h.rows t (by omega)
      exact key _ a b c _ d
  · exact ⟨gr.os, gr.tape, gr.output, by simpa using gr.size, fun k hk hne => (Below.heap_setCell _ _ _ _ (by show k ≠ s; intro e; subst e; exact hne rfl)).trans (gr.block k hk hne)⟩
theorem below_grown {b s : Nat} {V w v : World} (h : Below b V w) (g : w.grownBy v (some s)) (hb : b ≤ s) (hB : b ≤ w.heap.size) : Below b V v :=
  h.grown g hB (fun k e => by injection e with e; omega)
/-- The rows of such a sheet, in a world where the blocks from B on are the same. -/
theorem Flp.grid {B s : Nat} {x y : Value} {G : Nat → Nat} {n : Nat} {col : Nat → List Int} {j : Nat} {vz : Value} {w v v' : World} (h : Flp B s x y G n col j vz w v) (Z : List (List Int)) (hZ : Z.length = j) (hc : ∀ t, t < j → Z.getD t [] = col t ∧ (col t).length = n) (hj : 0 < j)
    (hsz : v.heap.size ≤ v'.heap.size) (hk : ∀ k, B ≤ k → v'.heap[k]? = v.heap[k]?) : ∃ g c : Nat, vz = .slice (some ⟨g, 0, none⟩) j c ∧ B ≤ g ∧ GridIs .i64 v' (some ⟨g, 0, none⟩) (fun t => some ⟨G t, 0, none⟩) (fun _ => n) Z := by
  rcases h.oz.2 with ⟨_, e⟩ | ⟨g, cap, cur, e, hb, hg, hle, hm, hs, ht⟩
  · omega
  · refine ⟨g, cap, e, hb, .inr ⟨g, 0, rfl, Nat.lt_of_lt_of_le (Array.getElem?_eq_some_iff.1 hg).1 hsz, fun i hi => ?_⟩, fun i hi => ?_⟩
    · rw [hZ] at hi
      have h1 := h.oz.cells (g := g) (by rw [e]; rfl) i (.slice (some ⟨G i, 0, none⟩) n n) (by simp [gvals, hi])
      rw [show (⟨g, 0, none⟩ : Addr).add i = ⟨g, 0 + i, none⟩ by unfold Addr.add; split <;> simp_all] at h1
      rw [(hc i hi).1, (hc i hi).2]
      exact (World.cell?_of_block (hk g hb)).trans h1
    · rw [hZ] at hi
      obtain ⟨a, b, c, d⟩ := h.rows i hi
      rw [(hc i hi).1]
      exact d.of_blk (by omega) (hk _ a)
theorem sfk_box (w : World) (a1 a2 a3 : Option Addr) (e1 e2 e3 : Nat) (X Y : List Int) (Z : List (List Int)) : ∃ V, V = ((w.alloc (.cells #[.slice a1 X.length e1, .slice a2 Y.length e2, .slice a3 Z.length e3] 25)).alloc (.cells #[.slice none 0 0, .slice none 0 0, .slice none 0 0] 25)) ∧ Below w.heap.size w V ∧ V.heap.size = w.heap.size + 2 ∧ ∀ u, Below (w.heap.size + 2) V u → u.cell? ⟨w.heap.size, 0, none⟩ = some (.slice a1 X.length e1) ∧ u.cell? ⟨w.heap.size, 1, none⟩ = some (.slice a2 Y.length e2) ∧ u.cell? ⟨w.heap.size, 2, none⟩ = some (.slice a3 Z.length e3) ∧ u.cell? ⟨w.heap.size + 1, 0, none⟩ = some (.slice none 0 0) ∧ u.cell? ⟨w.heap.size + 1, 1, none⟩ = some (.slice none 0 0) ∧ u.cell? ⟨w.heap.size + 1, 2, none⟩ = some (.slice none 0 0) ∧ u.frozen? ⟨w.heap.size + 1, 0, none⟩ = false ∧ u.frozen? ⟨w.heap.size + 1, 1, none⟩ = false ∧ u.frozen? ⟨w.heap.size + 1, 2, none⟩ = false :=
  ⟨_, rfl, (by repeat (first | exact Below.refl _ _ | assumption | apply Below.drew | apply below_drewN | (refine Below.alloc ?_ (by first | exact Nat.le_refl _ | omega | (simp <;> omega)) _) | (refine Below.setCell ?_ (by first | exact Nat.le_refl _ | omega | (simp <;> omega)) _))), by simp, fun u hu => ⟨(bc hu (by omega)).trans (by go_simp), (bc hu (by omega)).trans (by go_simp), (bc hu (by omega)).trans (by go_simp), (bc hu (by omega)).trans (by go_simp), (bc hu (by omega)).trans (by go_simp), (bc hu (by omega)).trans (by go_simp), (hu.frozen (p := ⟨w.heap.size + 1, 0, none⟩) (by show w.heap.size + 1 < w.heap.size + 2; omega)).trans (by first | (simp; done) | go_simp), (hu.frozen (p := ⟨w.heap.size + 1, 1, none⟩) (by show w.heap.size + 1 < w.heap.size + 2; omega)).trans (by first | (simp; done) | go_simp), (hu.frozen (p := ⟨w.heap.size + 1, 2, none⟩) (by show w.heap.size + 1 < w.heap.size + 2; omega)).trans (by first | (simp; done) | go_simp)⟩⟩

/-- A new sheet of nothing. -/
structure ShN (s : Nat) (v : World) : Prop where
  c0 : v.cell? ⟨s, 0, none⟩ = some (.slice none 0 0)
  c1 : v.cell? ⟨s, 1, none⟩ = some (.slice none 0 0)
  c2 : v.cell? ⟨s, 2, none⟩ = some (.slice none 0 0)
  f0 : v.frozen? ⟨s, 0, none⟩ = false
  f1 : v.frozen? ⟨s, 1, none⟩ = false
  f2 : v.frozen? ⟨s, 2, none⟩ = false
  lt : s < v.heap.size
theorem ShN.keep {s : Nat} {v v' : World} (h : ShN s v) (k : Below v.heap.size v v') : ShN s v' :=
  ⟨(k.cell (p := ⟨s, 0, none⟩) h.lt).trans h.c0, (k.cell (p := ⟨s, 1, none⟩) h.lt).trans h.c1, (k.cell (p := ⟨s, 2, none⟩) h.lt).trans h.c2, (k.frozen (p := ⟨s, 0, none⟩) h.lt).trans h.f0, (k.frozen (p := ⟨s, 1, none⟩) h.lt).trans h.f1, (k.frozen (p := ⟨s, 2, none⟩) h.lt).trans h.f2, Nat.lt_of_lt_of_le h.lt k.size⟩
theorem ShN.drew {s : Nat} {v : World} (h : ShN s v) : ShN s v.drew := ⟨h.c0, h.c1, h.c2, h.f0, h.f1, h.f2, h.lt⟩
theorem sh_alloc (w : World) : ∃ v, v = w.alloc (.cells #[.slice none 0 0, .slice none 0 0, .slice none 0 0] 25) ∧ Below w.heap.size w v ∧ ShN w.heap.size v ∧ v.heap.size = w.heap.size + 1 :=
  ⟨_, rfl, (Below.refl _ _).alloc (Nat.le_refl _) _, ⟨by go_simp, by go_simp, by go_simp, by first | (simp; done) | go_simp, by first | (simp; done) | go_simp, by first | (simp; done) | go_simp, by simp⟩, by simp⟩
theorem row_lt {w : World} {g : Nat} {l : List Int} (h : RowIs .i64 w (some ⟨g, 0, none⟩) l) (hl : 0 < l.length) : g < w.heap.size := by
  rcases h with rfl | ⟨b, off, e, hlt, _⟩
  · simp at hl
  · injection e with e
    injection e with e _
    omega
/-- The new sheet, its axes laid. -/
theorem ShN.laid {s : Nat} {v : World} (h : ShN s v) (x y : Value) (n : Nat) (col : Nat → List Int) : ∃ u, u = ((v.setCell ⟨s, 0, none⟩ x).setCell ⟨s, 1, none⟩ y).setCell ⟨s, 2, none⟩ (.slice none 0 0) ∧ Flp v.heap.size s x y (fun _ => 0) n col 0 (.slice none 0 0) u u ∧ u.heap.size = v.heap.size ∧ v.grownBy u (some s) := by
  refine ⟨_, rfl, ⟨World.ownsRow_nil _ _ _ _, ?_, ?_, ?_, ?_, fun t ht => by omega, ⟨rfl, rfl, rfl, Nat.le_refl _, fun _ _ _ => rfl⟩, by simp, h.lt⟩, by simp, rfl, rfl, rfl, by simp, fun k hk hne => ?_⟩
  · rw [World.cell?_setCell_other _ _ _ _ (by simp), World.cell?_setCell_other _ _ _ _ (by simp)]
    exact World.cell?_setCell_same _ _ _ h.c0
  · rw [World.cell?_setCell_other _ _ _ _ (by simp)]
    exact World.cell?_setCell_same _ _ _ ((World.cell?_setCell_other _ _ _ _ (by simp)).trans h.c1)
  · exact World.cell?_setCell_same _ _ _ ((World.cell?_setCell_other _ _ _ _ (by simp)).trans ((World.cell?_setCell_other _ _ _ _ (by simp)).trans h.c2))
  · simpa using h.f2
  · have hk' : k ≠ s := fun e => hne (by rw [e])
    rw [Below.heap_setCell _ _ _ _ hk', Below.heap_setCell _ _ _ _ hk', Below.heap_setCell _ _ _ _ hk']

def FlipP (X Y : List Int) (Z : List (List Int)) (w : World) (e : Ending) (w' : World) : Prop := ∃ (g1 c1 g2 c2 g3 c3 : Nat) (G : Nat → Nat), e = .returned (.tuple #[.agg #[.slice (some ⟨g1, 0, none⟩) Y.length c1, .slice (some ⟨g2, 0, none⟩) X.length c2, .slice (some ⟨g3, 0, none⟩) Y.length c3], .bool true]) ∧ RowIs .i64 w' (some ⟨g1, 0, none⟩) Y ∧ RowIs .i64 w' (some ⟨g2, 0, none⟩) X ∧ GridIs .i64 w' (some ⟨g3, 0, none⟩) (fun t => some ⟨G t, 0, none⟩) (fun _ => X.length) (flZ X.length Y.length Z) ∧ Below w.heap.size w w'
set_option maxRecDepth 100000 in
set_option maxHeartbeats 8000000 in
theorem sflip_ok (a1 a2 a3 : Option Addr) (GA : Nat → Option Addr) (GC : Nat → Nat) (e1 e2 e3 : Nat) (X Y : List Int) (Z : List (List Int)) (w : World) (hx : RowIs .i64 w a1 X) (hy : RowIs .i64 w a2 Y) (hg : GridIs .i64 w a3 GA GC Z) (hX : X.length ≤ 50) (hY : Y.length ≤ 50) (hZ : Z.length ≤ 50) (hR : ∀ i, i < Z.length → (Z.getD i []).length ≤ 50) (hs : shB X Y Z = true) : Calls Try.prog 25 #[.agg #[.slice a1 X.length e1, .slice a2 Y.length e2, .slice a3 Z.length e3]] w (FlipP X Y Z w) := by
  obtain ⟨V, eV, hb0, hz, hcs⟩ := sfk_box w a1 a2 a3 e1 e2 e3 X Y Z
  obtain ⟨i0, hi, hz0, hz1, hz2⟩ := info_parts ginfo
  replace hi := Lib.hid hi
  replace hz0 := Lib.hid hz0
  replace hz1 := Lib.hid hz1
  replace hz2 := Lib.hid hz2
  obtain ⟨s1, s2, s3, s4, s5, s6⟩ := shB_at hs
  obtain ⟨n1, _⟩ := rgtB_at s1
  obtain ⟨n2, _⟩ := rgtB_at s2
  have RT := fun u (h : Below (w.heap.size + 2) V u) => sright a1 a2 a3 GA GC e1 e2 e3 X Y Z u (hx.below (hb0.trans (h.mono (by omega)))) (hy.below (hb0.trans (h.mono (by omega)))) (hg.below (hb0.trans (h.mono (by omega)))) hX hY hZ hR
  rw [hs] at RT
  replace RT := Lib.hid RT
  have CX := Lib.hid (fun u (h : Below (w.heap.size + 2) V u) => cclone_any a1 e1 X u (hx.below (hb0.trans (h.mono (by omega)))) (by omega) (by omega))
  have CY := Lib.hid (fun u (h : Below (w.heap.size + 2) V u) => cclone_any a2 e2 Y u (hy.below (hb0.trans (h.mono (by omega)))) (by omega) (by omega))
  have GG := Lib.hid (fun u (h : Below (w.heap.size + 2) V u) => fun i (hi : i < Z.length) => (hg.below (hb0.trans (h.mono (by omega)))).at hi)
  have GR := Lib.hid (fun u (h : Below (w.heap.size + 2) V u) => fun i (hi : i < Z.length) => (hg.below (hb0.trans (h.mono (by omega)))).rows i hi)
  have RL := Lib.hid (fun i (hi : i < Z.length) => show (Z.getD i []).length = Y.length from (rgtB_at (s6 i hi)).2.2.1)
  have ZL := Lib.hid (show 2 ≤ X.length ∧ X.length ≤ 16 ∧ 2 ≤ Y.length ∧ Y.length ≤ 16 ∧ Z.length = X.length from by omega)
  have MK := run_make_row' (P := Try.prog) 22 2 (.int .i64 0) 8 Try.underlying22 cinfo_i64 rfl .i64 .i64 X.length (by omega) (by omega)
  clear hx hy hg hX hY hR hs s1 s2 s3 s4 s5 s6 n1 n2 hZ
  replace hb0 := Lib.hid hb0
  replace hz := Lib.hid hz
  replace hcs := Lib.hid hcs
  replace eV := Lib.hid eV
  go_enter Try.func25, Try.ntmps25
  go_wp2_with fail
  rw [← eV.out]
  obtain ⟨k0, k1, k2, k3, k4, k5, k6, k7, k8⟩ := hcs.out _ (Below.refl _ _)
  go_wp2_with fail
  refine (RT.out _ (Below.refl _ _)).mono ?_
  rintro e w1 ⟨rfl, hb1⟩
  have hb1 := (Below.refl (w.heap.size + 2) V).trans (hb1.mono (Nat.le_of_eq hz.out.symm))
  obtain ⟨k0, k1, k2, k3, k4, k5, k6, k7, k8⟩ := hcs.out _ hb1
  go_wp2_with fail
  refine region_tree (fun u => u.cell? ⟨w.heap.size, 0, none⟩ = some (.slice a1 X.length e1) ∧ u.cell? ⟨w.heap.size, 1, none⟩ = some (.slice a2 Y.length e2)) [(8, [(7, 8), (6, 8), (5, 8), (0, 8), (1, 8), (2, 8), (3, 8), (4, 8)])] (.free 0 (.take 1 (.free 3 (.take 4 (.fork 2 (.fork 5 (.free 6 (.step 7 (.late 8 .fin))) 7 (.step 5 (.free 6 (.late 8 .fin)))) 7 (.step 2 (.step 5 (.free 6 (.late 8 .fin))))))))) (by kernel_rfl) (by kernel_rfl) (by kernel_rfl) (by kernel_rfl) (by decide) (fun _ _ _ _ _ h => h) ?_
  first
    | (refine mt_free _ rfl ?_ (Or.inl ⟨by rfl, ?_⟩) (⟨k0, k1⟩) ?_
       rotate_left 1
       · intro u
         go_simp
         try with_reducible rfl
       simp only [Act.put, List.setIfInBounds_toArray, List.set_cons_zero, List.set_cons_succ])
    | (refine mt_free _ rfl _ (Or.inr ⟨by rfl, rfl⟩) (⟨k0, k1⟩) ?_
       simp only [Act.put, List.setIfInBounds_toArray, List.set_cons_zero, List.set_cons_succ])
  first
    | (refine mt_take _ rfl ?_ (Or.inl ⟨by rfl, ?_⟩) (⟨k0, k1⟩) ?_
       rotate_left 1
       · intro u hu
         (try dsimp only at hu)
         go_simp
         try with_reducible rfl
       simp only [Act.put, List.setIfInBounds_toArray, List.set_cons_zero, List.set_cons_succ])
    | (refine mt_take _ rfl _ (Or.inr ⟨by rfl, rfl⟩) (⟨k0, k1⟩) ?_
       simp only [Act.put, List.setIfInBounds_toArray, List.set_cons_zero, List.set_cons_succ])
  first
    | (refine mt_free _ rfl ?_ (Or.inl ⟨by rfl, ?_⟩) (⟨k0, k1⟩) ?_
       rotate_left 1
       · intro u
         go_simp
         try with_reducible rfl
       simp only [Act.put, List.setIfInBounds_toArray, List.set_cons_zero, List.set_cons_succ])
    | (refine mt_free _ rfl _ (Or.inr ⟨by rfl, rfl⟩) (⟨k0, k1⟩) ?_
       simp only [Act.put, List.setIfInBounds_toArray, List.set_cons_zero, List.set_cons_succ])
  first
    | (refine mt_take _ rfl ?_ (Or.inl ⟨by rfl, ?_⟩) (⟨k0, k1⟩) ?_
       rotate_left 1
       · intro u hu
         (try dsimp only at hu)
         go_simp
         try with_reducible rfl
       simp only [Act.put, List.setIfInBounds_toArray, List.set_cons_zero, List.set_cons_succ])
    | (refine mt_take _ rfl _ (Or.inr ⟨by rfl, rfl⟩) (⟨k0, k1⟩) ?_
       simp only [Act.put, List.setIfInBounds_toArray, List.set_cons_zero, List.set_cons_succ])
  refine mt_fork _ _ rfl rfl ?_ ?_
  · intro K hK
    go_simp
    refine (CY.out _ hb1.drew).mono ?_
    rintro e w2 ⟨g1, c1, rfl, rg1, hg1, hb2⟩
    have hg1 : w1.heap.size ≤ g1 := hg1
    have hq2 : w1.heap.size ≤ w2.heap.size := hb2.size
    have hb2 := hb1.drew.trans (hb2.mono (by have := hb1.size; have := hz.out; show _ ≤ w1.heap.size; omega))
    obtain ⟨k0, k1, k2, k3, k4, k5, k6, k7, k8⟩ := hcs.out _ hb2
    go_wp2_with fail
    refine hK.out _ _ _ (fun u hu => hu) (⟨k0, k1⟩) ?_
    clear hK K
    refine mt_fork _ _ rfl rfl ?_ ?_
    · intro K hK
      go_simp
      refine (CX.out _ hb2).mono ?_
      rintro e w3 ⟨g2, c2, rfl, rg2, hg2, hb3⟩
      have hg2 : w2.heap.size ≤ g2 := hg2
      have hq3 : w2.heap.size ≤ w3.heap.size := hb3.size
      have rg1 := rg1.below hb3
      have hb3 := hb2.trans (hb3.mono (by have := hb2.size; have := hz.out; show _ ≤ w2.heap.size; omega))
      obtain ⟨k0, k1, k2, k3, k4, k5, k6, k7, k8⟩ := hcs.out _ hb3
      go_wp2_with fail
      refine hK.out _ _ _ (fun u hu => hu) (⟨k0, k1⟩) ?_
      clear hK K
      first
        | (refine mt_free _ rfl ?_ (Or.inl ⟨by rfl, ?_⟩) (⟨k0, k1⟩) ?_
           rotate_left 1
           · intro u
             go_simp
             try with_reducible rfl
           simp only [Act.put, List.setIfInBounds_toArray, List.set_cons_zero, List.set_cons_succ])
        | (refine mt_free _ rfl _ (Or.inr ⟨by rfl, rfl⟩) (⟨k0, k1⟩) ?_
           simp only [Act.put, List.setIfInBounds_toArray, List.set_cons_zero, List.set_cons_succ])
      have l1 := row_lt rg1 (by have := ZL.out; omega)
      have l2 := row_lt rg2 (by have := ZL.out; omega)
      refine mt_step _ rfl ?_
      intro K hK
      go_simp
      obtain ⟨w4, eA, hbA, hN, hzA⟩ := sh_alloc w3
      rw [← eA]
      obtain ⟨s, es⟩ : ∃ s, s = w3.heap.size := ⟨_, rfl⟩
      rw [← es] at hN ⊢
      replace es := Lib.hid es
      replace eA := Lib.hid eA
      have hb4 := hb3.trans (hbA.mono (by have := hb3.size; have := hz.out; omega))
      obtain ⟨k0, k1, k2, k3, k4, k5, k6, k7, k8⟩ := hcs.out _ hb4
      refine hK.out _ _ _ (fun u hu => hu) (⟨k0, k1⟩) ?_
      clear hK K
      have rg1 := rg1.below hbA
      have rg2 := rg2.below hbA
      have hN9 := Lib.hid hN
      refine mt_late _ rfl ?_
      intro K hK
      obtain ⟨q0, q1, q2, p0, p1, p2, _⟩ := hN
      go_simp
      refine hK.out (fun _ => True) _ _ ?_
      clear hK K
      refine mt_fin ?_
      clear q0 q1 q2 p0 p1 p2 k0 k1 k2 k3 k4 k5 k6 k7 k8
      have zl := ZL.out
      have es := es.out
      have hzz := hz.out
      have m1 : g1 < w4.heap.size := row_lt rg1 (by omega)
      have m2 : g2 < w4.heap.size := row_lt rg2 (by omega)
      have u1 := hb1.size
      have u2 := hb2.size
      have u3 := hb3.size
      have u4 := hb4.size
      have n1 : g1 ≠ s := by omega
      have n2 : g2 ≠ s := by omega
      have hsw : w.heap.size + 2 ≤ s := by omega
      have hw1 : w.heap.size + 2 ≤ g1 := by omega
      have hw2 : w.heap.size + 2 ≤ g2 := by omega
      obtain ⟨w9, e9, hF, hz9, gr9⟩ := hN9.out.laid (.slice (some ⟨g1, 0, none⟩) Y.length c1) (.slice (some ⟨g2, 0, none⟩) X.length c2) X.length (colZ X.length Z)
      rw [← e9]
      have hb9 := Lib.hid (below_grown hb4 gr9 hsw (by omega))
      have r1 := Lib.hid (fun v (h : w9.grownBy v (some s)) => (rg1.of_blk (w' := w9) (by omega) (gr9.block g1 m1 (by simpa using n1))).of_blk (w' := v) (Nat.lt_of_lt_of_le (by omega) h.size) (h.block g1 (by omega) (by simpa using n1)))
      have r2 := Lib.hid (fun v (h : w9.grownBy v (some s)) => (rg2.of_blk (w' := w9) (by omega) (gr9.block g2 m2 (by simpa using n2))).of_blk (w' := v) (Nat.lt_of_lt_of_le (by omega) h.size) (h.block g2 (by omega) (by simpa using n2)))
      obtain ⟨B, eB⟩ : ∃ B, B = w4.heap.size := ⟨_, rfl⟩
      rw [← eB] at hF
      replace hF := Lib.hid hF
      have eB := Lib.hid eB
      replace zl := 0
      replace es := 0
      replace e9 := 0
      replace hz9 := 0
      clear hzz zl es e9 hz9 eB gr9 rg1 rg2 hN9 m1 m2 hb1 u1 hb2 u2 hb3 u3 hb4 u4 l1 l2
      obtain ⟨k0, k1, k2, k3, k4, k5, k6, k7, k8⟩ := hcs.out _ hb9.out
      go_upto_region 4 with (fail)
      go_wp2_with fail
      go_loopw [22] (fun i v => ∃ (j : Nat) (vz : Value) (G : Nat → Nat), j ≤ Y.length ∧ i = .int .i64 (j : Int) ∧ Hid (Flp B s (.slice (some ⟨g1, 0, none⟩) Y.length c1) (.slice (some ⟨g2, 0, none⟩) X.length c2) G X.length (colZ X.length Z) j vz w9 v)) (fun i _ => Y.length - (intOf i).toNat)
      case atStart => exact ⟨0, .slice none 0 0, _, by omega, rfl, hF⟩
      case round =>
        clear hF k0 k1 k2 k3 k4 k5 k6 k7 k8
        obtain ⟨j, vz, G, hj, rfl, hS⟩ := hrel
        have hb := below_grown hb9.out hS.out.gr hsw (by have := hS.out.hB; have := hS.out.hs; omega)
        obtain ⟨k0, k1, k2, k3, k4, k5, k6, k7, k8⟩ := hcs.out _ hb
        by_cases hlt : j < Y.length
        · have l1 : (j : Int) < (Y.length : Int) := by omega
          have l0 : 0 ≤ (j : Int) := by omega
          generalize wr = v0 at *
          obtain ⟨U, eU, hU0, hUz, hrow0⟩ : ∃ U, U = v0.alloc (.cells (madeCells #[Value.int .i64 0] X.length) 2) ∧ Below v0.heap.size v0 U ∧ U.heap.size = v0.heap.size + 1 ∧ U.rowIs v0.heap.size 2 X.length (fun _ => .int .i64 0) :=
            ⟨_, rfl, (Below.refl v0.heap.size v0).alloc (Nat.le_refl _) _, by simp, World.rowIs_made _ _ _ _⟩
          replace eU := Lib.hid eU
          replace hUz := Lib.hid hUz
          replace hrow0 := Lib.hid hrow0
          replace hU0 := Lib.hid hU0
          have hwr := Lib.hid (show w.heap.size + 2 ≤ v0.heap.size from by have := hb.size; have := hz.out; omega)
          go_upto_region 8 with (fail)
          rw [← eU.out]
          have hbi := hb.trans (hU0.out.mono hwr.out)
          replace hb := Lib.hid hb
          clear k0 k1 k2 k3 k4 k5 k6 k7 k8
          obtain ⟨k0, k1, k2, k3, k4, k5, k6, k7, k8⟩ := hcs.out _ hbi
          go_wp2_with fail
          go_loopw [32] (fun i v => ∃ t : Nat, t ≤ X.length ∧ i = .int .i64 (t : Int) ∧ Below v0.heap.size v0 v ∧ Hid (v0.heap.size < v.heap.size ∧ v.rowIs v0.heap.size 2 X.length (fun q => if q < t then .int .i64 ((Z.getD q []).getD j 0) else .int .i64 0))) (fun i _ => X.length - (intOf i).toNat)
          case atStart => exact ⟨0, by omega, rfl, hU0.out, Lib.hid ⟨by have := hUz.out; omega, hrow0.out.congr (fun i hi => by simp)⟩⟩
          case round =>
            clear MK hbi eU hrow0 k0 k1 k2 k3 k4 k5 k6 k7 k8
            obtain ⟨t, ht, rfl, hv, hR⟩ := hrel
            have hbi := hb.out.trans (hv.mono hwr.out)
            obtain ⟨k0, k1, k2, k3, k4, k5, k6, k7, k8⟩ := hcs.out _ hbi
            by_cases htt : t < X.length
            · have lz : t < Z.length := by have := ZL.out; omega
              obtain ⟨bz, oz, ea, -, c9⟩ := GG.out _ hbi t lz
              obtain ⟨bl, ol, el, -, c8⟩ := (GR.out _ hbi t lz).at (i := j) (by have := RL.out t lz; omega)
              rw [RL.out t lz, el] at c9
              subst ea
              have l2 : (t : Int) < (X.length : Int) := by omega
              have l4 : (t : Int) < (Z.length : Int) := by omega
              have l3 : 0 ≤ (t : Int) := by omega
              obtain ⟨y, hy⟩ : ∃ y, y = (Z.getD t []).getD j 0 := ⟨_, rfl⟩
              rw [← hy] at c8
              replace hy := Lib.hid hy
              have ck := hR.out.2.cell htt
              rw [if_neg (Nat.lt_irrefl t)] at ck
              have fk := hR.out.2.frozen t
              have st := Lib.hid (hR.out.2.set t (.int .i64 y))
              have hs1 := hR.out.1
              have hs1 := Lib.hid hs1
              have hbl := Lib.hid (hv.setCell (p := ⟨v0.heap.size, t, none⟩) (Nat.le_refl _) (.int .i64 y))
              replace el := Lib.hid el
              clear lz hv hbi hR
              go_wp2
              go_roundw
              case rel =>
                refine ⟨t + 1, by omega, by go_num, hbl.out, Lib.hid ⟨by first | exact hs1.out | (simpa [World.setCell] using hs1.out), st.out.congr (fun q hq => ?_)⟩⟩
                rw [hy.out]
                by_cases e : q = t
                · subst e; simp
                · by_cases e2 : q < t
                  · rw [if_neg e, if_pos e2, if_pos (by omega)]
                  · rw [if_neg e, if_neg e2, if_neg (by omega)]
              case measure => simp [intOf]; omega
            · have hge : (X.length : Int) ≤ (t : Int) := by omega
              have hrow : RowIs .i64 wr (some ⟨v0.heap.size, 0, none⟩) (colZ X.length Z j) := .inr ⟨_, _, rfl, hR.out.1, fun i hi => by
                rw [colZ_len] at hi
                have := hR.out.2.cell hi
                rw [if_pos (by omega)] at this
                rw [Nat.zero_add, this, colZ_at Z j hi]⟩
              have hS3 := hS.out.keep hv
              have hr2 := hR.out.1
              have hr1 := hS.out.lt
              have hr3 : vz.ownBlock ≠ some v0.heap.size := fun e => by have := (hS.out.oz.lt _ e).2; omega
              have zl : Y.length ≤ 16 := ZL.out.2.2.2.1
              clear hS hv hbi hR k0 k1 k2 k3 k4 k5 k6 k7 k8
              have c2' := hS3.c2
              have f2' := hS3.f2
              go_upto_region 14 with (first | (at_builtin; refine wpList_append_lies _ rfl (.tmp 48) (.tmp 50) _ rfl B 22 i0 (.slice none 0 0) 1 24 Try.underlying23 hi.out hz0.out hz1.out hz2.out rfl (by decide) vz j (gvals G X.length j) rfl (hS3.oz.alloc _) ⟨_, 0, none⟩ 1 1 [.slice (some ⟨v0.heap.size, 0, none⟩) X.length X.length] rfl rfl (new_one _ _ _) (one_slice _ _ _) (by decide) (by unfold maxLen; omega) (by omega) (by simp; have := hS3.lt; omega) _ rfl ?_; intro g cap w1 ho hg hgg hlt1; obtain ⟨-, -, -, d2, e2, -, -⟩ := hS3.low _ hg; clear hlt1; replace ho := Lib.hid ho; replace hg := Lib.hid hg; replace hgg := Lib.hid hgg))
              have hS4 := hS3.step _ ho.out hg.out hgg.out hrow hr1 hr2 hr3
              clear c2' f2' d2 e2 ho hg hgg hS3 hrow hr1 hr2 hr3
              change Code.wp _ _ _ _ (w1.setCell ⟨s, 2, none⟩ (.slice (some ⟨g, 0, none⟩) (j + 1) cap))
              generalize w1.setCell ⟨s, 2, none⟩ (.slice (some ⟨g, 0, none⟩) (j + 1) cap) = v1 at *
              replace hS4 := Lib.hid hS4
              go_wp2
              go_roundw
              case rel => exact ⟨j + 1, _, _, by omega, by go_num, hS4⟩
              case measure => simp [intOf]; omega
        · have hge : (Y.length : Int) ≤ (j : Int) := by omega
          have ej : j = Y.length := by omega
          rw [ej] at hS
          have zl := ZL.out
          have hsB := hS.out.hs
          obtain ⟨g3, c3, e3', hg3, hG⟩ := hS.out.grid (v' := (((wr.setCell ⟨w.heap.size + 1, 0, none⟩ (.slice (some ⟨g1, 0, none⟩) Y.length c1)).setCell ⟨w.heap.size + 1, 1, none⟩ (.slice (some ⟨g2, 0, none⟩) X.length c2)).setCell ⟨w.heap.size + 1, 2, none⟩ (vz))) (flZ X.length Y.length Z) (flZ_len _ _ _) (fun t ht => ⟨flZ_at _ _ ht, colZ_len _ _ _⟩) (by omega) (by simp) (fun k hk => by rw [Below.heap_setCell _ _ _ _ (by show k ≠ w.heap.size + 1; omega), Below.heap_setCell _ _ _ _ (by show k ≠ w.heap.size + 1; omega), Below.heap_setCell _ _ _ _ (by show k ≠ w.heap.size + 1; omega)])
          subst e3'
          have c0' := hS.out.c0
          have c1' := hS.out.c1
          have c2' := hS.out.c2
          have x1 := r1.out _ hS.out.gr
          have x2 := r2.out _ hS.out.gr
          have z0 := World.cell?_setCell_same wr ⟨w.heap.size + 1, 0, none⟩ (.slice (some ⟨g1, 0, none⟩) Y.length c1) k3
          have z1 := World.cell?_setCell_same (wr.setCell ⟨w.heap.size + 1, 0, none⟩ (.slice (some ⟨g1, 0, none⟩) Y.length c1)) ⟨w.heap.size + 1, 1, none⟩ (.slice (some ⟨g2, 0, none⟩) X.length c2) ((World.cell?_setCell_other wr ⟨w.heap.size + 1, 0, none⟩ ⟨w.heap.size + 1, 1, none⟩ (.slice (some ⟨g1, 0, none⟩) Y.length c1) (by simp)).trans k4)
          have z2 := World.cell?_setCell_same ((wr.setCell ⟨w.heap.size + 1, 0, none⟩ (.slice (some ⟨g1, 0, none⟩) Y.length c1)).setCell ⟨w.heap.size + 1, 1, none⟩ (.slice (some ⟨g2, 0, none⟩) X.length c2)) ⟨w.heap.size + 1, 2, none⟩ (.slice (some ⟨g3, 0, none⟩) Y.length c3) ((World.cell?_setCell_other (wr.setCell ⟨w.heap.size + 1, 0, none⟩ (.slice (some ⟨g1, 0, none⟩) Y.length c1)) ⟨w.heap.size + 1, 1, none⟩ ⟨w.heap.size + 1, 2, none⟩ (.slice (some ⟨g2, 0, none⟩) X.length c2) (by simp)).trans ((World.cell?_setCell_other wr ⟨w.heap.size + 1, 0, none⟩ ⟨w.heap.size + 1, 2, none⟩ (.slice (some ⟨g1, 0, none⟩) Y.length c1) (by simp)).trans k5))
          have hbl := Lib.hid ((((hb0.out.trans (hb.mono (by omega))).setCell (p := ⟨w.heap.size + 1, 0, none⟩) (by show _ ≤ w.heap.size + 1; omega) (.slice (some ⟨g1, 0, none⟩) Y.length c1)).setCell (p := ⟨w.heap.size + 1, 1, none⟩) (by show _ ≤ w.heap.size + 1; omega) (.slice (some ⟨g2, 0, none⟩) X.length c2)).setCell (p := ⟨w.heap.size + 1, 2, none⟩) (by show _ ≤ w.heap.size + 1; omega) (.slice (some ⟨g3, 0, none⟩) Y.length c3))
          replace z0 := Lib.hid ((World.cell?_setCell_other ((wr.setCell ⟨w.heap.size + 1, 0, none⟩ (.slice (some ⟨g1, 0, none⟩) Y.length c1)).setCell ⟨w.heap.size + 1, 1, none⟩ (.slice (some ⟨g2, 0, none⟩) X.length c2)) ⟨w.heap.size + 1, 2, none⟩ ⟨w.heap.size + 1, 0, none⟩ (.slice (some ⟨g3, 0, none⟩) Y.length c3) (by simp)).trans ((World.cell?_setCell_other (wr.setCell ⟨w.heap.size + 1, 0, none⟩ (.slice (some ⟨g1, 0, none⟩) Y.length c1)) ⟨w.heap.size + 1, 1, none⟩ ⟨w.heap.size + 1, 0, none⟩ (.slice (some ⟨g2, 0, none⟩) X.length c2) (by simp)).trans z0))
          replace z1 := Lib.hid ((World.cell?_setCell_other ((wr.setCell ⟨w.heap.size + 1, 0, none⟩ (.slice (some ⟨g1, 0, none⟩) Y.length c1)).setCell ⟨w.heap.size + 1, 1, none⟩ (.slice (some ⟨g2, 0, none⟩) X.length c2)) ⟨w.heap.size + 1, 2, none⟩ ⟨w.heap.size + 1, 1, none⟩ (.slice (some ⟨g3, 0, none⟩) Y.length c3) (by simp)).trans z1)
          replace z2 := Lib.hid z2
          replace hG := Lib.hid hG
          replace x1 := Lib.hid (((x1.aside3 ⟨w.heap.size + 1, 0, none⟩ (.slice (some ⟨g1, 0, none⟩) Y.length c1) (by show w.heap.size + 1 ≠ g1; omega)).aside3 ⟨w.heap.size + 1, 1, none⟩ (.slice (some ⟨g2, 0, none⟩) X.length c2) (by show w.heap.size + 1 ≠ g1; omega)).aside3 ⟨w.heap.size + 1, 2, none⟩ (.slice (some ⟨g3, 0, none⟩) Y.length c3) (by show w.heap.size + 1 ≠ g1; omega))
          replace x2 := Lib.hid (((x2.aside3 ⟨w.heap.size + 1, 0, none⟩ (.slice (some ⟨g1, 0, none⟩) Y.length c1) (by show w.heap.size + 1 ≠ g2; omega)).aside3 ⟨w.heap.size + 1, 1, none⟩ (.slice (some ⟨g2, 0, none⟩) X.length c2) (by show w.heap.size + 1 ≠ g2; omega)).aside3 ⟨w.heap.size + 1, 2, none⟩ (.slice (some ⟨g3, 0, none⟩) Y.length c3) (by show w.heap.size + 1 ≠ g2; omega))
          replace hS := 0
          replace ej := 0
          clear MK zl hsB
          go_wp2
          refine bodyPost_ret (v := .tuple #[.agg #[.slice (some ⟨g1, 0, none⟩) Y.length c1, .slice (some ⟨g2, 0, none⟩) X.length c2, .slice (some ⟨g3, 0, none⟩) Y.length c3], .bool true]) (by simp [results, Try.results25, go_sem, z0.out, z1.out, z2.out]) rfl ?_
          exact ⟨g1, c1, g2, c2, g3, c3, G, rfl, x1.out, x2.out, hG.out, hbl.out⟩
    · have l1 := row_lt rg1 (by have := ZL.out; omega)
      intro K hK
      go_simp
      obtain ⟨w4, eA, hbA, hN, hzA⟩ := sh_alloc w2
      rw [← eA]
      obtain ⟨s, es⟩ : ∃ s, s = w2.heap.size := ⟨_, rfl⟩
      rw [← es] at hN ⊢
      replace es := Lib.hid es
      replace eA := Lib.hid eA
      have hb4 := hb2.trans (hbA.mono (by have := hb2.size; have := hz.out; omega))
      have rg1 := rg1.below hbA
      obtain ⟨k0, k1, k2, k3, k4, k5, k6, k7, k8⟩ := hcs.out _ hb4
      refine hK.out _ _ _ (fun u hu => hu) (⟨k0, k1⟩) ?_
      clear hK K
      refine mt_step _ rfl ?_
      intro K hK
      go_simp
      refine (CX.out _ hb4).mono ?_
      rintro e w5 ⟨g2, c2, rfl, rg2, hg2, hb5⟩
      have hg2 : w4.heap.size ≤ g2 := hg2
      have hq5 : w4.heap.size ≤ w5.heap.size := hb5.size
      have rg1 := rg1.below hb5
      have hN := hN.keep hb5
      have hb5 := hb4.trans (hb5.mono (by have := hb4.size; have := hz.out; show _ ≤ w4.heap.size; omega))
      obtain ⟨k0, k1, k2, k3, k4, k5, k6, k7, k8⟩ := hcs.out _ hb5
      go_wp2_with fail
      refine hK.out _ _ _ (fun u hu => hu) (⟨k0, k1⟩) ?_
      clear hK K
      first
        | (refine mt_free _ rfl ?_ (Or.inl ⟨by rfl, ?_⟩) (⟨k0, k1⟩) ?_
           rotate_left 1
           · intro u
             go_simp
             try with_reducible rfl
           simp only [Act.put, List.setIfInBounds_toArray, List.set_cons_zero, List.set_cons_succ])
        | (refine mt_free _ rfl _ (Or.inr ⟨by rfl, rfl⟩) (⟨k0, k1⟩) ?_
           simp only [Act.put, List.setIfInBounds_toArray, List.set_cons_zero, List.set_cons_succ])
      have hN9 := Lib.hid hN
      refine mt_late _ rfl ?_
      intro K hK
      obtain ⟨q0, q1, q2, p0, p1, p2, _⟩ := hN
      go_simp
      refine hK.out (fun _ => True) _ _ ?_
      clear hK K
      refine mt_fin ?_
      clear q0 q1 q2 p0 p1 p2 k0 k1 k2 k3 k4 k5 k6 k7 k8
      have zl := ZL.out
      have es := es.out
      have hzz := hz.out
      have m1 : g1 < w5.heap.size := row_lt rg1 (by omega)
      have m2 : g2 < w5.heap.size := row_lt rg2 (by omega)
      have u1 := hb1.size
      have u2 := hb2.size
      have u4 := hb4.size
      have u5 := hb5.size
      have n1 : g1 ≠ s := by omega
      have n2 : g2 ≠ s := by omega
      have hsw : w.heap.size + 2 ≤ s := by omega
      have hw1 : w.heap.size + 2 ≤ g1 := by omega
      have hw2 : w.heap.size + 2 ≤ g2 := by omega
      obtain ⟨w9, e9, hF, hz9, gr9⟩ := hN9.out.laid (.slice (some ⟨g1, 0, none⟩) Y.length c1) (.slice (some ⟨g2, 0, none⟩) X.length c2) X.length (colZ X.length Z)
      rw [← e9]
      have hb9 := Lib.hid (below_grown hb5 gr9 hsw (by omega))
      have r1 := Lib.hid (fun v (h : w9.grownBy v (some s)) => (rg1.of_blk (w' := w9) (by omega) (gr9.block g1 m1 (by simpa using n1))).of_blk (w' := v) (Nat.lt_of_lt_of_le (by omega) h.size) (h.block g1 (by omega) (by simpa using n1)))
      have r2 := Lib.hid (fun v (h : w9.grownBy v (some s)) => (rg2.of_blk (w' := w9) (by omega) (gr9.block g2 m2 (by simpa using n2))).of_blk (w' := v) (Nat.lt_of_lt_of_le (by omega) h.size) (h.block g2 (by omega) (by simpa using n2)))
      obtain ⟨B, eB⟩ : ∃ B, B = w5.heap.size := ⟨_, rfl⟩
      rw [← eB] at hF
      replace hF := Lib.hid hF
      have eB := Lib.hid eB
      replace zl := 0
      replace es := 0
      replace e9 := 0
      replace hz9 := 0
      clear hzz zl es e9 hz9 eB gr9 rg1 rg2 hN9 m1 m2 hb1 u1 hb2 u2 hb4 u4 hb5 u5 l1
      obtain ⟨k0, k1, k2, k3, k4, k5, k6, k7, k8⟩ := hcs.out _ hb9.out
      go_upto_region 4 with (fail)
      go_wp2_with fail
      go_loopw [22] (fun i v => ∃ (j : Nat) (vz : Value) (G : Nat → Nat), j ≤ Y.length ∧ i = .int .i64 (j : Int) ∧ Hid (Flp B s (.slice (some ⟨g1, 0, none⟩) Y.length c1) (.slice (some ⟨g2, 0, none⟩) X.length c2) G X.length (colZ X.length Z) j vz w9 v)) (fun i _ => Y.length - (intOf i).toNat)
      case atStart => exact ⟨0, .slice none 0 0, _, by omega, rfl, hF⟩
      case round =>
        clear hF k0 k1 k2 k3 k4 k5 k6 k7 k8
        obtain ⟨j, vz, G, hj, rfl, hS⟩ := hrel
        have hb := below_grown hb9.out hS.out.gr hsw (by have := hS.out.hB; have := hS.out.hs; omega)
        obtain ⟨k0, k1, k2, k3, k4, k5, k6, k7, k8⟩ := hcs.out _ hb
        by_cases hlt : j < Y.length
        · have l1 : (j : Int) < (Y.length : Int) := by omega
          have l0 : 0 ≤ (j : Int) := by omega
          generalize wr = v0 at *
          obtain ⟨U, eU, hU0, hUz, hrow0⟩ : ∃ U, U = v0.alloc (.cells (madeCells #[Value.int .i64 0] X.length) 2) ∧ Below v0.heap.size v0 U ∧ U.heap.size = v0.heap.size + 1 ∧ U.rowIs v0.heap.size 2 X.length (fun _ => .int .i64 0) :=
            ⟨_, rfl, (Below.refl v0.heap.size v0).alloc (Nat.le_refl _) _, by simp, World.rowIs_made _ _ _ _⟩
          replace eU := Lib.hid eU
          replace hUz := Lib.hid hUz
          replace hrow0 := Lib.hid hrow0
          replace hU0 := Lib.hid hU0
          have hwr := Lib.hid (show w.heap.size + 2 ≤ v0.heap.size from by have := hb.size; have := hz.out; omega)
          go_upto_region 8 with (fail)
          rw [← eU.out]
          have hbi := hb.trans (hU0.out.mono hwr.out)
          replace hb := Lib.hid hb
          clear k0 k1 k2 k3 k4 k5 k6 k7 k8
          obtain ⟨k0, k1, k2, k3, k4, k5, k6, k7, k8⟩ := hcs.out _ hbi
          go_wp2_with fail
          go_loopw [32] (fun i v => ∃ t : Nat, t ≤ X.length ∧ i = .int .i64 (t : Int) ∧ Below v0.heap.size v0 v ∧ Hid (v0.heap.size < v.heap.size ∧ v.rowIs v0.heap.size 2 X.length (fun q => if q < t then .int .i64 ((Z.getD q []).getD j 0) else .int .i64 0))) (fun i _ => X.length - (intOf i).toNat)
          case atStart => exact ⟨0, by omega, rfl, hU0.out, Lib.hid ⟨by have := hUz.out; omega, hrow0.out.congr (fun i hi => by simp)⟩⟩
          case round =>
            clear MK hbi eU hrow0 k0 k1 k2 k3 k4 k5 k6 k7 k8
            obtain ⟨t, ht, rfl, hv, hR⟩ := hrel
            have hbi := hb.out.trans (hv.mono hwr.out)
            obtain ⟨k0, k1, k2, k3, k4, k5, k6, k7, k8⟩ := hcs.out _ hbi
            by_cases htt : t < X.length
            · have lz : t < Z.length := by have := ZL.out; omega
              obtain ⟨bz, oz, ea, -, c9⟩ := GG.out _ hbi t lz
              obtain ⟨bl, ol, el, -, c8⟩ := (GR.out _ hbi t lz).at (i := j) (by have := RL.out t lz; omega)
              rw [RL.out t lz, el] at c9
              subst ea
              have l2 : (t : Int) < (X.length : Int) := by omega
              have l4 : (t : Int) < (Z.length : Int) := by omega
              have l3 : 0 ≤ (t : Int) := by omega
              obtain ⟨y, hy⟩ : ∃ y, y = (Z.getD t []).getD j 0 := ⟨_, rfl⟩
              rw [← hy] at c8
              replace hy := Lib.hid hy
              have ck := hR.out.2.cell htt
              rw [if_neg (Nat.lt_irrefl t)] at ck
              have fk := hR.out.2.frozen t
              have st := Lib.hid (hR.out.2.set t (.int .i64 y))
              have hs1 := hR.out.1
              have hs1 := Lib.hid hs1
              have hbl := Lib.hid (hv.setCell (p := ⟨v0.heap.size, t, none⟩) (Nat.le_refl _) (.int .i64 y))
              replace el := Lib.hid el
              clear lz hv hbi hR
              go_wp2
              go_roundw
              case rel =>
                refine ⟨t + 1, by omega, by go_num, hbl.out, Lib.hid ⟨by first | exact hs1.out | (simpa [World.setCell] using hs1.out), st.out.congr (fun q hq => ?_)⟩⟩
                rw [hy.out]
                by_cases e : q = t
                · subst e; simp
                · by_cases e2 : q < t
                  · rw [if_neg e, if_pos e2, if_pos (by omega)]
                  · rw [if_neg e, if_neg e2, if_neg (by omega)]
              case measure => simp [intOf]; omega
            · have hge : (X.length : Int) ≤ (t : Int) := by omega
              have hrow : RowIs .i64 wr (some ⟨v0.heap.size, 0, none⟩) (colZ X.length Z j) := .inr ⟨_, _, rfl, hR.out.1, fun i hi => by
                rw [colZ_len] at hi
                have := hR.out.2.cell hi
                rw [if_pos (by omega)] at this
                rw [Nat.zero_add, this, colZ_at Z j hi]⟩
              have hS3 := hS.out.keep hv
              have hr2 := hR.out.1
              have hr1 := hS.out.lt
              have hr3 : vz.ownBlock ≠ some v0.heap.size := fun e => by have := (hS.out.oz.lt _ e).2; omega
              have zl : Y.length ≤ 16 := ZL.out.2.2.2.1
              clear hS hv hbi hR k0 k1 k2 k3 k4 k5 k6 k7 k8
              have c2' := hS3.c2
              have f2' := hS3.f2
              go_upto_region 14 with (first | (at_builtin; refine wpList_append_lies _ rfl (.tmp 48) (.tmp 50) _ rfl B 22 i0 (.slice none 0 0) 1 24 Try.underlying23 hi.out hz0.out hz1.out hz2.out rfl (by decide) vz j (gvals G X.length j) rfl (hS3.oz.alloc _) ⟨_, 0, none⟩ 1 1 [.slice (some ⟨v0.heap.size, 0, none⟩) X.length X.length] rfl rfl (new_one _ _ _) (one_slice _ _ _) (by decide) (by unfold maxLen; omega) (by omega) (by simp; have := hS3.lt; omega) _ rfl ?_; intro g cap w1 ho hg hgg hlt1; obtain ⟨-, -, -, d2, e2, -, -⟩ := hS3.low _ hg; clear hlt1; replace ho := Lib.hid ho; replace hg := Lib.hid hg; replace hgg := Lib.hid hgg))
              have hS4 := hS3.step _ ho.out hg.out hgg.out hrow hr1 hr2 hr3
              clear c2' f2' d2 e2 ho hg hgg hS3 hrow hr1 hr2 hr3
              change Code.wp _ _ _ _ (w1.setCell ⟨s, 2, none⟩ (.slice (some ⟨g, 0, none⟩) (j + 1) cap))
              generalize w1.setCell ⟨s, 2, none⟩ (.slice (some ⟨g, 0, none⟩) (j + 1) cap) = v1 at *
              replace hS4 := Lib.hid hS4
              go_wp2
              go_roundw
              case rel => exact ⟨j + 1, _, _, by omega, by go_num, hS4⟩
              case measure => simp [intOf]; omega
        · have hge : (Y.length : Int) ≤ (j : Int) := by omega
          have ej : j = Y.length := by omega
          rw [ej] at hS
          have zl := ZL.out
          have hsB := hS.out.hs
          obtain ⟨g3, c3, e3', hg3, hG⟩ := hS.out.grid (v' := (((wr.setCell ⟨w.heap.size + 1, 0, none⟩ (.slice (some ⟨g1, 0, none⟩) Y.length c1)).setCell ⟨w.heap.size + 1, 1, none⟩ (.slice (some ⟨g2, 0, none⟩) X.length c2)).setCell ⟨w.heap.size + 1, 2, none⟩ (vz))) (flZ X.length Y.length Z) (flZ_len _ _ _) (fun t ht => ⟨flZ_at _ _ ht, colZ_len _ _ _⟩) (by omega) (by simp) (fun k hk => by rw [Below.heap_setCell _ _ _ _ (by show k ≠ w.heap.size + 1; omega), Below.heap_setCell _ _ _ _ (by show k ≠ w.heap.size + 1; omega), Below.heap_setCell _ _ _ _ (by show k ≠ w.heap.size + 1; omega)])
          subst e3'
          have c0' := hS.out.c0
          have c1' := hS.out.c1
          have c2' := hS.out.c2
          have x1 := r1.out _ hS.out.gr
          have x2 := r2.out _ hS.out.gr
          have z0 := World.cell?_setCell_same wr ⟨w.heap.size + 1, 0, none⟩ (.slice (some ⟨g1, 0, none⟩) Y.length c1) k3
          have z1 := World.cell?_setCell_same (wr.setCell ⟨w.heap.size + 1, 0, none⟩ (.slice (some ⟨g1, 0, none⟩) Y.length c1)) ⟨w.heap.size + 1, 1, none⟩ (.slice (some ⟨g2, 0, none⟩) X.length c2) ((World.cell?_setCell_other wr ⟨w.heap.size + 1, 0, none⟩ ⟨w.heap.size + 1, 1, none⟩ (.slice (some ⟨g1, 0, none⟩) Y.length c1) (by simp)).trans k4)
          have z2 := World.cell?_setCell_same ((wr.setCell ⟨w.heap.size + 1, 0, none⟩ (.slice (some ⟨g1, 0, none⟩) Y.length c1)).setCell ⟨w.heap.size + 1, 1, none⟩ (.slice (some ⟨g2, 0, none⟩) X.length c2)) ⟨w.heap.size + 1, 2, none⟩ (.slice (some ⟨g3, 0, none⟩) Y.length c3) ((World.cell?_setCell_other (wr.setCell ⟨w.heap.size + 1, 0, none⟩ (.slice (some ⟨g1, 0, none⟩) Y.length c1)) ⟨w.heap.size + 1, 1, none⟩ ⟨w.heap.size + 1, 2, none⟩ (.slice (some ⟨g2, 0, none⟩) X.length c2) (by simp)).trans ((World.cell?_setCell_other wr ⟨w.heap.size + 1, 0, none⟩ ⟨w.heap.size + 1, 2, none⟩ (.slice (some ⟨g1, 0, none⟩) Y.length c1) (by simp)).trans k5))
          have hbl := Lib.hid ((((hb0.out.trans (hb.mono (by omega))).setCell (p := ⟨w.heap.size + 1, 0, none⟩) (by show _ ≤ w.heap.size + 1; omega) (.slice (some ⟨g1, 0, none⟩) Y.length c1)).setCell (p := ⟨w.heap.size + 1, 1, none⟩) (by show _ ≤ w.heap.size + 1; omega) (.slice (some ⟨g2, 0, none⟩) X.length c2)).setCell (p := ⟨w.heap.size + 1, 2, none⟩) (by show _ ≤ w.heap.size + 1; omega) (.slice (some ⟨g3, 0, none⟩) Y.length c3))
          replace z0 := Lib.hid ((World.cell?_setCell_other ((wr.setCell ⟨w.heap.size + 1, 0, none⟩ (.slice (some ⟨g1, 0, none⟩) Y.length c1)).setCell ⟨w.heap.size + 1, 1, none⟩ (.slice (some ⟨g2, 0, none⟩) X.length c2)) ⟨w.heap.size + 1, 2, none⟩ ⟨w.heap.size + 1, 0, none⟩ (.slice (some ⟨g3, 0, none⟩) Y.length c3) (by simp)).trans ((World.cell?_setCell_other (wr.setCell ⟨w.heap.size + 1, 0, none⟩ (.slice (some ⟨g1, 0, none⟩) Y.length c1)) ⟨w.heap.size + 1, 1, none⟩ ⟨w.heap.size + 1, 0, none⟩ (.slice (some ⟨g2, 0, none⟩) X.length c2) (by simp)).trans z0))
          replace z1 := Lib.hid ((World.cell?_setCell_other ((wr.setCell ⟨w.heap.size + 1, 0, none⟩ (.slice (some ⟨g1, 0, none⟩) Y.length c1)).setCell ⟨w.heap.size + 1, 1, none⟩ (.slice (some ⟨g2, 0, none⟩) X.length c2)) ⟨w.heap.size + 1, 2, none⟩ ⟨w.heap.size + 1, 1, none⟩ (.slice (some ⟨g3, 0, none⟩) Y.length c3) (by simp)).trans z1)
          replace z2 := Lib.hid z2
          replace hG := Lib.hid hG
          replace x1 := Lib.hid (((x1.aside3 ⟨w.heap.size + 1, 0, none⟩ (.slice (some ⟨g1, 0, none⟩) Y.length c1) (by show w.heap.size + 1 ≠ g1; omega)).aside3 ⟨w.heap.size + 1, 1, none⟩ (.slice (some ⟨g2, 0, none⟩) X.length c2) (by show w.heap.size + 1 ≠ g1; omega)).aside3 ⟨w.heap.size + 1, 2, none⟩ (.slice (some ⟨g3, 0, none⟩) Y.length c3) (by show w.heap.size + 1 ≠ g1; omega))
          replace x2 := Lib.hid (((x2.aside3 ⟨w.heap.size + 1, 0, none⟩ (.slice (some ⟨g1, 0, none⟩) Y.length c1) (by show w.heap.size + 1 ≠ g2; omega)).aside3 ⟨w.heap.size + 1, 1, none⟩ (.slice (some ⟨g2, 0, none⟩) X.length c2) (by show w.heap.size + 1 ≠ g2; omega)).aside3 ⟨w.heap.size + 1, 2, none⟩ (.slice (some ⟨g3, 0, none⟩) Y.length c3) (by show w.heap.size + 1 ≠ g2; omega))
          replace hS := 0
          replace ej := 0
          clear MK zl hsB
          go_wp2
          refine bodyPost_ret (v := .tuple #[.agg #[.slice (some ⟨g1, 0, none⟩) Y.length c1, .slice (some ⟨g2, 0, none⟩) X.length c2, .slice (some ⟨g3, 0, none⟩) Y.length c3], .bool true]) (by simp [results, Try.results25, go_sem, z0.out, z1.out, z2.out]) rfl ?_
          exact ⟨g1, c1, g2, c2, g3, c3, G, rfl, x1.out, x2.out, hG.out, hbl.out⟩
  · skip
    intro K hK
    go_simp
    obtain ⟨w4, eA, hbA, hN, hzA⟩ := sh_alloc w1
    rw [← eA]
    obtain ⟨s, es⟩ : ∃ s, s = w1.heap.size := ⟨_, rfl⟩
    rw [← es] at hN ⊢
    replace es := Lib.hid es
    replace eA := Lib.hid eA
    have hb4 := hb1.trans (hbA.mono (by have := hb1.size; have := hz.out; omega))
    obtain ⟨k0, k1, k2, k3, k4, k5, k6, k7, k8⟩ := hcs.out _ hb4
    refine hK.out _ _ _ (fun u hu => hu) (⟨k0, k1⟩) ?_
    clear hK K
    refine mt_step _ rfl ?_
    intro K hK
    go_simp
    refine (CY.out _ hb4.drew).mono ?_
    rintro e w5 ⟨g1, c1, rfl, rg1, hg1, hb5⟩
    have hg1 : w4.heap.size ≤ g1 := hg1
    have hq5 : w4.heap.size ≤ w5.heap.size := hb5.size
    have hN := hN.drew.keep hb5
    have hb5 := hb4.drew.trans (hb5.mono (by have := hb4.size; have := hz.out; show _ ≤ w4.heap.size; omega))
    obtain ⟨k0, k1, k2, k3, k4, k5, k6, k7, k8⟩ := hcs.out _ hb5
    go_wp2_with fail
    refine hK.out _ _ _ (fun u hu => hu) (⟨k0, k1⟩) ?_
    clear hK K
    refine mt_step _ rfl ?_
    intro K hK
    go_simp
    refine (CX.out _ hb5).mono ?_
    rintro e w6 ⟨g2, c2, rfl, rg2, hg2, hb6⟩
    have hg2 : w5.heap.size ≤ g2 := hg2
    have hq6 : w5.heap.size ≤ w6.heap.size := hb6.size
    have rg1 := rg1.below hb6
    have hN := hN.keep hb6
    have hb6 := hb5.trans (hb6.mono (by have := hb5.size; have := hz.out; show _ ≤ w5.heap.size; omega))
    obtain ⟨k0, k1, k2, k3, k4, k5, k6, k7, k8⟩ := hcs.out _ hb6
    go_wp2_with fail
    refine hK.out _ _ _ (fun u hu => hu) (⟨k0, k1⟩) ?_
    clear hK K
    first
      | (refine mt_free _ rfl ?_ (Or.inl ⟨by rfl, ?_⟩) (⟨k0, k1⟩) ?_
         rotate_left 1
         · intro u
           go_simp
           try with_reducible rfl
         simp only [Act.put, List.setIfInBounds_toArray, List.set_cons_zero, List.set_cons_succ])
      | (refine mt_free _ rfl _ (Or.inr ⟨by rfl, rfl⟩) (⟨k0, k1⟩) ?_
         simp only [Act.put, List.setIfInBounds_toArray, List.set_cons_zero, List.set_cons_succ])
    have hN9 := Lib.hid hN
    refine mt_late _ rfl ?_
    intro K hK
    obtain ⟨q0, q1, q2, p0, p1, p2, _⟩ := hN
    go_simp
    refine hK.out (fun _ => True) _ _ ?_
    clear hK K
    refine mt_fin ?_
    clear q0 q1 q2 p0 p1 p2 k0 k1 k2 k3 k4 k5 k6 k7 k8
    have zl := ZL.out
    have es := es.out
    have hzz := hz.out
    have m1 : g1 < w6.heap.size := row_lt rg1 (by omega)
    have m2 : g2 < w6.heap.size := row_lt rg2 (by omega)
    have u1 := hb1.size
    have u4 := hb4.size
    have u5 := hb5.size
    have u6 := hb6.size
    have n1 : g1 ≠ s := by omega
    have n2 : g2 ≠ s := by omega
    have hsw : w.heap.size + 2 ≤ s := by omega
    have hw1 : w.heap.size + 2 ≤ g1 := by omega
    have hw2 : w.heap.size + 2 ≤ g2 := by omega
    obtain ⟨w9, e9, hF, hz9, gr9⟩ := hN9.out.laid (.slice (some ⟨g1, 0, none⟩) Y.length c1) (.slice (some ⟨g2, 0, none⟩) X.length c2) X.length (colZ X.length Z)
    rw [← e9]
    have hb9 := Lib.hid (below_grown hb6 gr9 hsw (by omega))
    have r1 := Lib.hid (fun v (h : w9.grownBy v (some s)) => (rg1.of_blk (w' := w9) (by omega) (gr9.block g1 m1 (by simpa using n1))).of_blk (w' := v) (Nat.lt_of_lt_of_le (by omega) h.size) (h.block g1 (by omega) (by simpa using n1)))
    have r2 := Lib.hid (fun v (h : w9.grownBy v (some s)) => (rg2.of_blk (w' := w9) (by omega) (gr9.block g2 m2 (by simpa using n2))).of_blk (w' := v) (Nat.lt_of_lt_of_le (by omega) h.size) (h.block g2 (by omega) (by simpa using n2)))
    obtain ⟨B, eB⟩ : ∃ B, B = w6.heap.size := ⟨_, rfl⟩
    rw [← eB] at hF
    replace hF := Lib.hid hF
    have eB := Lib.hid eB
    replace zl := 0
    replace es := 0
    replace e9 := 0
    replace hz9 := 0
    clear hzz zl es e9 hz9 eB gr9 rg1 rg2 hN9 m1 m2 hb1 u1 hb4 u4 hb5 u5 hb6 u6 
    obtain ⟨k0, k1, k2, k3, k4, k5, k6, k7, k8⟩ := hcs.out _ hb9.out
    go_upto_region 4 with (fail)
    go_wp2_with fail
    go_loopw [22] (fun i v => ∃ (j : Nat) (vz : Value) (G : Nat → Nat), j ≤ Y.length ∧ i = .int .i64 (j : Int) ∧ Hid (Flp B s (.slice (some ⟨g1, 0, none⟩) Y.length c1) (.slice (some ⟨g2, 0, none⟩) X.length c2) G X.length (colZ X.length Z) j vz w9 v)) (fun i _ => Y.length - (intOf i).toNat)
    case atStart => exact ⟨0, .slice none 0 0, _, by omega, rfl, hF⟩
    case round =>
      clear hF k0 k1 k2 k3 k4 k5 k6 k7 k8
      obtain ⟨j, vz, G, hj, rfl, hS⟩ := hrel
      have hb := below_grown hb9.out hS.out.gr hsw (by have := hS.out.hB; have := hS.out.hs; omega)
      obtain ⟨k0, k1, k2, k3, k4, k5, k6, k7, k8⟩ := hcs.out _ hb
      by_cases hlt : j < Y.length
      · have l1 : (j : Int) < (Y.length : Int) := by omega
        have l0 : 0 ≤ (j : Int) := by omega
        generalize wr = v0 at *
        obtain ⟨U, eU, hU0, hUz, hrow0⟩ : ∃ U, U = v0.alloc (.cells (madeCells #[Value.int .i64 0] X.length) 2) ∧ Below v0.heap.size v0 U ∧ U.heap.size = v0.heap.size + 1 ∧ U.rowIs v0.heap.size 2 X.length (fun _ => .int .i64 0) :=
          ⟨_, rfl, (Below.refl v0.heap.size v0).alloc (Nat.le_refl _) _, by simp, World.rowIs_made _ _ _ _⟩
        replace eU := Lib.hid eU
        replace hUz := Lib.hid hUz
        replace hrow0 := Lib.hid hrow0
        replace hU0 := Lib.hid hU0
        have hwr := Lib.hid (show w.heap.size + 2 ≤ v0.heap.size from by have := hb.size; have := hz.out; omega)
        go_upto_region 8 with (fail)
        rw [← eU.out]
        have hbi := hb.trans (hU0.out.mono hwr.out)
        replace hb := Lib.hid hb
        clear k0 k1 k2 k3 k4 k5 k6 k7 k8
        obtain ⟨k0, k1, k2, k3, k4, k5, k6, k7, k8⟩ := hcs.out _ hbi
        go_wp2_with fail
        go_loopw [32] (fun i v => ∃ t : Nat, t ≤ X.length ∧ i = .int .i64 (t : Int) ∧ Below v0.heap.size v0 v ∧ Hid (v0.heap.size < v.heap.size ∧ v.rowIs v0.heap.size 2 X.length (fun q => if q < t then .int .i64 ((Z.getD q []).getD j 0) else .int .i64 0))) (fun i _ => X.length - (intOf i).toNat)
        case atStart => exact ⟨0, by omega, rfl, hU0.out, Lib.hid ⟨by have := hUz.out; omega, hrow0.out.congr (fun i hi => by simp)⟩⟩
        case round =>
          clear MK hbi eU hrow0 k0 k1 k2 k3 k4 k5 k6 k7 k8
          obtain ⟨t, ht, rfl, hv, hR⟩ := hrel
          have hbi := hb.out.trans (hv.mono hwr.out)
          obtain ⟨k0, k1, k2, k3, k4, k5, k6, k7, k8⟩ := hcs.out _ hbi
          by_cases htt : t < X.length
          · have lz : t < Z.length := by have := ZL.out; omega
            obtain ⟨bz, oz, ea, -, c9⟩ := GG.out _ hbi t lz
            obtain ⟨bl, ol, el, -, c8⟩ := (GR.out _ hbi t lz).at (i := j) (by have := RL.out t lz; omega)
            rw [RL.out t lz, el] at c9
            subst ea
            have l2 : (t : Int) < (X.length : Int) := by omega
            have l4 : (t : Int) < (Z.length : Int) := by omega
            have l3 : 0 ≤ (t : Int) := by omega
            obtain ⟨y, hy⟩ : ∃ y, y = (Z.getD t []).getD j 0 := ⟨_, rfl⟩
            rw [← hy] at c8
            replace hy := Lib.hid hy
            have ck := hR.out.2.cell htt
            rw [if_neg (Nat.lt_irrefl t)] at ck
            have fk := hR.out.2.frozen t
            have st := Lib.hid (hR.out.2.set t (.int .i64 y))
            have hs1 := hR.out.1
            have hs1 := Lib.hid hs1
            have hbl := Lib.hid (hv.setCell (p := ⟨v0.heap.size, t, none⟩) (Nat.le_refl _) (.int .i64 y))
            replace el := Lib.hid el
            clear lz hv hbi hR
            go_wp2
            go_roundw
            case rel =>
              refine ⟨t + 1, by omega, by go_num, hbl.out, Lib.hid ⟨by first | exact hs1.out | (simpa [World.setCell] using hs1.out), st.out.congr (fun q hq => ?_)⟩⟩
              rw [hy.out]
              by_cases e : q = t
              · subst e; simp
              · by_cases e2 : q < t
                · rw [if_neg e, if_pos e2, if_pos (by omega)]
                · rw [if_neg e, if_neg e2, if_neg (by omega)]
            case measure => simp [intOf]; omega
          · have hge : (X.length : Int) ≤ (t : Int) := by omega
            have hrow : RowIs .i64 wr (some ⟨v0.heap.size, 0, none⟩) (colZ X.length Z j) := .inr ⟨_, _, rfl, hR.out.1, fun i hi => by
              rw [colZ_len] at hi
              have := hR.out.2.cell hi
              rw [if_pos (by omega)] at this
              rw [Nat.zero_add, this, colZ_at Z j hi]⟩
            have hS3 := hS.out.keep hv
            have hr2 := hR.out.1
            have hr1 := hS.out.lt
            have hr3 : vz.ownBlock ≠ some v0.heap.size := fun e => by have := (hS.out.oz.lt _ e).2; omega
            have zl : Y.length ≤ 16 := ZL.out.2.2.2.1
            clear hS hv hbi hR k0 k1 k2 k3 k4 k5 k6 k7 k8
            have c2' := hS3.c2
            have f2' := hS3.f2
            go_upto_region 14 with (first | (at_builtin; refine wpList_append_lies _ rfl (.tmp 48) (.tmp 50) _ rfl B 22 i0 (.slice none 0 0) 1 24 Try.underlying23 hi.out hz0.out hz1.out hz2.out rfl (by decide) vz j (gvals G X.length j) rfl (hS3.oz.alloc _) ⟨_, 0, none⟩ 1 1 [.slice (some ⟨v0.heap.size, 0, none⟩) X.length X.length] rfl rfl (new_one _ _ _) (one_slice _ _ _) (by decide) (by unfold maxLen; omega) (by omega) (by simp; have := hS3.lt; omega) _ rfl ?_; intro g cap w1 ho hg hgg hlt1; obtain ⟨-, -, -, d2, e2, -, -⟩ := hS3.low _ hg; clear hlt1; replace ho := Lib.hid ho; replace hg := Lib.hid hg; replace hgg := Lib.hid hgg))
            have hS4 := hS3.step _ ho.out hg.out hgg.out hrow hr1 hr2 hr3
            clear c2' f2' d2 e2 ho hg hgg hS3 hrow hr1 hr2 hr3
            change Code.wp _ _ _ _ (w1.setCell ⟨s, 2, none⟩ (.slice (some ⟨g, 0, none⟩) (j + 1) cap))
            generalize w1.setCell ⟨s, 2, none⟩ (.slice (some ⟨g, 0, none⟩) (j + 1) cap) = v1 at *
            replace hS4 := Lib.hid hS4
            go_wp2
            go_roundw
            case rel => exact ⟨j + 1, _, _, by omega, by go_num, hS4⟩
            case measure => simp [intOf]; omega
      · have hge : (Y.length : Int) ≤ (j : Int) := by omega
        have ej : j = Y.length := by omega
        rw [ej] at hS
        have zl := ZL.out
        have hsB := hS.out.hs
        obtain ⟨g3, c3, e3', hg3, hG⟩ := hS.out.grid (v' := (((wr.setCell ⟨w.heap.size + 1, 0, none⟩ (.slice (some ⟨g1, 0, none⟩) Y.length c1)).setCell ⟨w.heap.size + 1, 1, none⟩ (.slice (some ⟨g2, 0, none⟩) X.length c2)).setCell ⟨w.heap.size + 1, 2, none⟩ (vz))) (flZ X.length Y.length Z) (flZ_len _ _ _) (fun t ht => ⟨flZ_at _ _ ht, colZ_len _ _ _⟩) (by omega) (by simp) (fun k hk => by rw [Below.heap_setCell _ _ _ _ (by show k ≠ w.heap.size + 1; omega), Below.heap_setCell _ _ _ _ (by show k ≠ w.heap.size + 1; omega), Below.heap_setCell _ _ _ _ (by show k ≠ w.heap.size + 1; omega)])
        subst e3'
        have c0' := hS.out.c0
        have c1' := hS.out.c1
        have c2' := hS.out.c2
        have x1 := r1.out _ hS.out.gr
        have x2 := r2.out _ hS.out.gr
        have z0 := World.cell?_setCell_same wr ⟨w.heap.size + 1, 0, none⟩ (.slice (some ⟨g1, 0, none⟩) Y.length c1) k3
        have z1 := World.cell?_setCell_same (wr.setCell ⟨w.heap.size + 1, 0, none⟩ (.slice (some ⟨g1, 0, none⟩) Y.length c1)) ⟨w.heap.size + 1, 1, none⟩ (.slice (some ⟨g2, 0, none⟩) X.length c2) ((World.cell?_setCell_other wr ⟨w.heap.size + 1, 0, none⟩ ⟨w.heap.size + 1, 1, none⟩ (.slice (some ⟨g1, 0, none⟩) Y.length c1) (by simp)).trans k4)
        have z2 := World.cell?_setCell_same ((wr.setCell ⟨w.heap.size + 1, 0, none⟩ (.slice (some ⟨g1, 0, none⟩) Y.length c1)).setCell ⟨w.heap.size + 1, 1, none⟩ (.slice (some ⟨g2, 0, none⟩) X.length c2)) ⟨w.heap.size + 1, 2, none⟩ (.slice (some ⟨g3, 0, none⟩) Y.length c3) ((World.cell?_setCell_other (wr.setCell ⟨w.heap.size + 1, 0, none⟩ (.slice (some ⟨g1, 0, none⟩) Y.length c1)) ⟨w.heap.size + 1, 1, none⟩ ⟨w.heap.size + 1, 2, none⟩ (.slice (some ⟨g2, 0, none⟩) X.length c2) (by simp)).trans ((World.cell?_setCell_other wr ⟨w.heap.size + 1, 0, none⟩ ⟨w.heap.size + 1, 2, none⟩ (.slice (some ⟨g1, 0, none⟩) Y.length c1) (by simp)).trans k5))
        have hbl := Lib.hid ((((hb0.out.trans (hb.mono (by omega))).setCell (p := ⟨w.heap.size + 1, 0, none⟩) (by show _ ≤ w.heap.size + 1; omega) (.slice (some ⟨g1, 0, none⟩) Y.length c1)).setCell (p := ⟨w.heap.size + 1, 1, none⟩) (by show _ ≤ w.heap.size + 1; omega) (.slice (some ⟨g2, 0, none⟩) X.length c2)).setCell (p := ⟨w.heap.size + 1, 2, none⟩) (by show _ ≤ w.heap.size + 1; omega) (.slice (some ⟨g3, 0, none⟩) Y.length c3))
        replace z0 := Lib.hid ((World.cell?_setCell_other ((wr.setCell ⟨w.heap.size + 1, 0, none⟩ (.slice (some ⟨g1, 0, none⟩) Y.length c1)).setCell ⟨w.heap.size + 1, 1, none⟩ (.slice (some ⟨g2, 0, none⟩) X.length c2)) ⟨w.heap.size + 1, 2, none⟩ ⟨w.heap.size + 1, 0, none⟩ (.slice (some ⟨g3, 0, none⟩) Y.length c3) (by simp)).trans ((World.cell?_setCell_other (wr.setCell ⟨w.heap.size + 1, 0, none⟩ (.slice (some ⟨g1, 0, none⟩) Y.length c1)) ⟨w.heap.size + 1, 1, none⟩ ⟨w.heap.size + 1, 0, none⟩ (.slice (some ⟨g2, 0, none⟩) X.length c2) (by simp)).trans z0))
        replace z1 := Lib.hid ((World.cell?_setCell_other ((wr.setCell ⟨w.heap.size + 1, 0, none⟩ (.slice (some ⟨g1, 0, none⟩) Y.length c1)).setCell ⟨w.heap.size + 1, 1, none⟩ (.slice (some ⟨g2, 0, none⟩) X.length c2)) ⟨w.heap.size + 1, 2, none⟩ ⟨w.heap.size + 1, 1, none⟩ (.slice (some ⟨g3, 0, none⟩) Y.length c3) (by simp)).trans z1)
        replace z2 := Lib.hid z2
        replace hG := Lib.hid hG
        replace x1 := Lib.hid (((x1.aside3 ⟨w.heap.size + 1, 0, none⟩ (.slice (some ⟨g1, 0, none⟩) Y.length c1) (by show w.heap.size + 1 ≠ g1; omega)).aside3 ⟨w.heap.size + 1, 1, none⟩ (.slice (some ⟨g2, 0, none⟩) X.length c2) (by show w.heap.size + 1 ≠ g1; omega)).aside3 ⟨w.heap.size + 1, 2, none⟩ (.slice (some ⟨g3, 0, none⟩) Y.length c3) (by show w.heap.size + 1 ≠ g1; omega))
        replace x2 := Lib.hid (((x2.aside3 ⟨w.heap.size + 1, 0, none⟩ (.slice (some ⟨g1, 0, none⟩) Y.length c1) (by show w.heap.size + 1 ≠ g2; omega)).aside3 ⟨w.heap.size + 1, 1, none⟩ (.slice (some ⟨g2, 0, none⟩) X.length c2) (by show w.heap.size + 1 ≠ g2; omega)).aside3 ⟨w.heap.size + 1, 2, none⟩ (.slice (some ⟨g3, 0, none⟩) Y.length c3) (by show w.heap.size + 1 ≠ g2; omega))
        replace hS := 0
        replace ej := 0
        clear MK zl hsB
        go_wp2
        refine bodyPost_ret (v := .tuple #[.agg #[.slice (some ⟨g1, 0, none⟩) Y.length c1, .slice (some ⟨g2, 0, none⟩) X.length c2, .slice (some ⟨g3, 0, none⟩) Y.length c3], .bool true]) (by simp [results, Try.results25, go_sem, z0.out, z1.out, z2.out]) rfl ?_
        exact ⟨g1, c1, g2, c2, g3, c3, G, rfl, x1.out, x2.out, hG.out, hbl.out⟩
end Go.Proofs.Ytnfbfggkbpobiaa
