/- The law BusWatches; walked. -/
import Derived.Test.YtcpmdgbogdikiaaBus11
import Derived.Test.YtcpmdgbogdikiaaMixg
import Derived.Deep.OwnRows
import Derived.Deep.Cut
import Derived.Deep.CutRange
namespace Go.Proofs.Ytcpmdgbogdikiaa
open Go.ChangeShapes Go.WideShapes Go.ChangeAt Go.RowKit
set_option linter.unusedVariables false
set_option linter.unusedSimpArgs false
theorem mk_u32 (n : Nat) (hn : n ≤ 1000000) (w : World) : (Instr.makeSlice 39 (.int .i64 (n : Int)) (.int .i64 (n : Int))).run Try.prog w = .ok (.slice (some ⟨w.heap.size, 0, none⟩) n n) (w.alloc (.cells (madeCells #[.int .u32 0] n) 44)) :=
  run_make_row' 39 44 (.int .u32 0) 4 Try.underlying39 (by kernel_rfl) rfl .i64 .i64 n (by omega) (by omega) w
theorem mk_int (n : Nat) (hn : n ≤ 1000000) (w : World) : (Instr.makeSlice 24 (.int .i64 (n : Int)) (.int .i64 (n : Int))).run Try.prog w = .ok (.slice (some ⟨w.heap.size, 0, none⟩) n n) (w.alloc (.cells (madeCells #[.int .i64 0] n) 3)) :=
  run_make_row' 24 3 (.int .i64 0) 8 Try.underlying24 (by kernel_rfl) rfl .i64 .i64 n (by omega) (by omega) w
theorem rowIs_bel {u u' : World} {b : Nat} {t : TypeId} {n : Nat} {f : Nat → Value} (h : u.rowIs b t n f) (k : Below u.heap.size u u') : u'.rowIs b t n f := h.of_block (k.block b h.lt)
/-- Two new rows. -/
structure LbW (B g1 g2 n : Nat) (F1 F2 : Nat → Value) (w u : World) : Prop where
  r1 : u.rowIs g1 44 n F1
  r2 : u.rowIs g2 3 n F2
  ne : g1 ≠ g2
  h1 : B ≤ g1
  h2 : B ≤ g2
  bel : Below B w u
theorem made_two (w1 : World) (n : Nat) (t1 t2 : TypeId) (z1 z2 : Value) : ((w1.alloc (.cells (madeCells #[z1] n) t1)).alloc (.cells (madeCells #[z2] n) t2)).drew.rowIs w1.heap.size t1 n (fun _ => z1) ∧ ((w1.alloc (.cells (madeCells #[z1] n) t1)).alloc (.cells (madeCells #[z2] n) t2)).drew.rowIs (w1.heap.size + 1) t2 n (fun _ => z2) := by
  refine ⟨((World.rowIs_made w1 z1 n t1).alloc _).drew, ?_⟩
  have := (World.rowIs_made (w1.alloc (.cells (madeCells #[z1] n) t1)) z2 n t2).drew
  simpa using this
theorem LbW.made (w1 : World) (n : Nat) (z1 z2 : Value) : LbW w1.heap.size w1.heap.size (w1.heap.size + 1) n (fun _ => z1) (fun _ => z2) w1 ((w1.alloc (.cells (madeCells #[z1] n) 44)).alloc (.cells (madeCells #[z2] n) 3)).drew :=
  ⟨(made_two w1 n _ _ z1 z2).1, (made_two w1 n _ _ z1 z2).2, by omega, Nat.le_refl _, by omega, (((Below.refl _ _).alloc (Nat.le_refl _) _).alloc (by simp) _).drew⟩
theorem LbW.made2 (w1 : World) (n : Nat) (z1 z2 : Value) : LbW w1.heap.size (w1.heap.size + 1) w1.heap.size n (fun _ => z1) (fun _ => z2) w1 ((w1.alloc (.cells (madeCells #[z2] n) 3)).alloc (.cells (madeCells #[z1] n) 44)).drew :=
  ⟨(made_two w1 n _ _ z2 z1).2, (made_two w1 n _ _ z2 z1).1, by omega, by omega, Nat.le_refl _, (((Below.refl _ _).alloc (Nat.le_refl _) _).alloc (by simp) _).drew⟩
theorem Wt.other {p q g tc n : Nat} {N P F : Nat → Int} {pa c : Int} {W : Nat → Int} {K : Nat → Bool} {T : Nat → Int} {u v : World} (h : Wt p q g tc n N P F pa c W K T u) (hs : u.heap.size ≤ v.heap.size) (e : ∀ b, b = p ∨ b = q ∨ b = g → v.heap[b]? = u.heap[b]?) : Wt p q g tc n N P F pa c W K T v := by
  have ep := e p (.inl rfl)
  have eq := e q (.inr (.inl rfl))
  have eg := e g (.inr (.inr rfl))
  exact ⟨⟨Nat.lt_of_lt_of_le h.h.lt hs, fun i v hv => (World.cell?_of_block (a := ⟨p, i, none⟩) ep).trans (h.h.c i v hv), fun i hi => (World.frozen?_of_block (a := ⟨p, i, none⟩) ep).trans (h.h.f i hi)⟩, h.l.kept hs eg, fun i hi => ⟨(World.cell?_of_block (a := ⟨q, i * 3, none⟩) eq).trans (h.r i hi).1, (World.cell?_of_block (a := ⟨q, i * 3 + 1, none⟩) eq).trans (h.r i hi).2.1, (World.cell?_of_block (a := ⟨q, i * 3 + 2, none⟩) eq).trans (h.r i hi).2.2⟩, fun j => (World.frozen?_of_block (a := ⟨q, j, none⟩) eq).trans (h.fz j), Nat.lt_of_lt_of_le h.qz hs, Nat.lt_of_lt_of_le h.gz hs, h.pq, h.pg, h.qg⟩
/-- The watcher, and what the document knows: its last words, their ticks. -/
structure BwS (g1 g2 p q g tc n : Nat) (N P F : Nat → Int) (pa c : Int) (W : Nat → Int) (K : Nat → Bool) (T : Nat → Int) (lW lT : Nat → Int) (w0 u : World) : Prop where
  x : Wt p q g tc n N P F pa c W K T u
  r1 : u.rowIs g1 44 n (fun i => .int .u32 (lW i))
  r2 : u.rowIs g2 3 n (fun i => .int .i64 (lT i))
  b : Below w0.heap.size w0 u
  ne : g1 ≠ g2
  n1 : g1 ≠ p ∧ g1 ≠ q ∧ g1 ≠ g
  n2 : g2 ≠ p ∧ g2 ≠ q ∧ g2 ≠ g
  lo : w0.heap.size ≤ g1 ∧ w0.heap.size ≤ g2 ∧ w0.heap.size ≤ p ∧ w0.heap.size ≤ q
theorem BwS.next {g1 g2 p q g tc n : Nat} {N P F : Nat → Int} {pa c : Int} {W : Nat → Int} {K : Nat → Bool} {T : Nat → Int} {lW lT : Nat → Int} {w0 u v : World} (h : BwS g1 g2 p q g tc n N P F pa c W K T lW lT w0 u) (k : Below u.heap.size u v) : BwS g1 g2 p q g tc n N P F pa c W K T lW lT w0 v :=
  ⟨h.x.bel k, rowIs_bel h.r1 k, rowIs_bel h.r2 k, h.b.trans (k.mono h.b.size), h.ne, h.n1, h.n2, h.lo⟩
theorem BwS.same {g1 g2 p q g tc n : Nat} {N P F : Nat → Int} {pa c : Int} {W : Nat → Int} {K : Nat → Bool} {T : Nat → Int} {lW lT lW' lT' : Nat → Int} {w0 u : World} (h : BwS g1 g2 p q g tc n N P F pa c W K T lW lT w0 u) (e1 : lW = lW') (e2 : lT = lT') : BwS g1 g2 p q g tc n N P F pa c W K T lW' lT' w0 u := by subst e1 e2; exact h
theorem BwS.put {g1 g2 p q g tc n : Nat} {N P F : Nat → Int} {pa c : Int} {W : Nat → Int} {K : Nat → Bool} {T : Nat → Int} {lW lT : Nat → Int} {w0 u : World} (h : BwS g1 g2 p q g tc n N P F pa c W K T lW lT w0 u) (j : Nat) (x d : Int) : BwS g1 g2 p q g tc n N P F pa c W K T (fun i => if i = j then x else lW i) (fun i => if i = j then d else lT i) w0 ((u.setCell ⟨g1, j, none⟩ (.int .u32 x)).setCell ⟨g2, j, none⟩ (.int .i64 d)) := by
  have hx := h.n1
  have hy := h.n2
  refine ⟨h.x.other (by simp) (fun b hb => (Below.heap_setCell _ ⟨g2, j, none⟩ _ b ?_).trans (Below.heap_setCell _ ⟨g1, j, none⟩ _ b ?_)), ((h.r1.set j _).setOther (a := ⟨g2, j, none⟩) h.ne _).congr ?_, ((h.r2.setOther (a := ⟨g1, j, none⟩) (Ne.symm h.ne) _).set j _).congr ?_, (h.b.setCell (p := ⟨g1, j, none⟩) h.lo.1 _).setCell (p := ⟨g2, j, none⟩) h.lo.2.1 _, h.ne, h.n1, h.n2, h.lo⟩
  · show b ≠ g2; omega
  · show b ≠ g1; omega
  · intro i hi; show (if i = j then _ else _) = _; split <;> rfl
  · intro i hi; show (if i = j then _ else _) = _; split <;> rfl
theorem BwS.step {g1 g2 p q g tc n : Nat} {N P F : Nat → Int} {pa c c' : Int} {W W' : Nat → Int} {K K' : Nat → Bool} {T T' : Nat → Int} {lW lT : Nat → Int} {w0 u v : World} (h : BwS g1 g2 p q g tc n N P F pa c W K T lW lT w0 u) (hx : Wt p q g tc n N P F pa c' W' K' T' v) (t : Two p q u v) : BwS g1 g2 p q g tc n N P F pa c' W' K' T' lW lT w0 v := by
  have a1 := h.n1
  have a2 := h.n2
  have a3 := h.lo
  have bs := h.b.size
  exact ⟨hx, h.r1.of_block (t.block g1 h.r1.lt a1.1 a1.2.1), h.r2.of_block (t.block g2 h.r2.lt a2.1 a2.2.1), ⟨t.os.trans h.b.os, t.tape.trans h.b.tape, t.output.trans h.b.output, Nat.le_trans bs t.size, fun i hi => (t.block i (Nat.lt_of_lt_of_le hi bs) (by omega) (by omega)).trans (h.b.block i hi)⟩, h.ne, h.n1, h.n2, h.lo⟩
/-- What is known behind k ticks. -/
def wsN (N : Nat → Int) (n : Nat) (Z : List (List Int)) : Nat → WS
  | 0 => ⟨fun _ => 0, fun _ => false, fun _ => 0, 0⟩
  | k + 1 => (Z.getD k []).foldl (st1 N n ((k : Int) + 1)) ⟨(wsN N n Z k).W, (wsN N n Z k).K, (wsN N n Z k).T, 0⟩
theorem wsN_K (N : Nat → Int) (n : Nat) (Z : List (List Int)) : ∀ k, (∀ i, (wsN N n Z k).K i = decide (0 < (wsN N n Z k).T i)) ∧ ∀ i, 0 ≤ (wsN N n Z k).T i ∧ (wsN N n Z k).T i ≤ (k : Int)
  | 0 => ⟨fun _ => rfl, fun _ => ⟨Int.le_refl 0, Int.le_refl 0⟩⟩
  | k + 1 => by
    obtain ⟨h1, h2⟩ := wsN_K N n Z k
    have := fold_K N n ((k : Int) + 1) (by omega) (Z.getD k []) ⟨(wsN N n Z k).W, (wsN N n Z k).K, (wsN N n Z k).T, 0⟩ h1 (fun i => by have := h2 i; show 0 ≤ (wsN N n Z k).T i ∧ (wsN N n Z k).T i ≤ (k : Int) + 1; omega)
    refine ⟨this.1, fun i => ?_⟩
    have e : (((k + 1 : Nat)) : Int) = (k : Int) + 1 := by omega
    rw [e]
    exact this.2 i
end Go.Proofs.Ytcpmdgbogdikiaa
