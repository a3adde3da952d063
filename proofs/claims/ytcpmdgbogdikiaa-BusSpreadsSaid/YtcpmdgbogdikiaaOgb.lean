/- Own rows of numbers of one kind; what is appended to them. -/
import Derived.Test.YtcpmdgbogdikiaaOg
namespace Go.Proofs.Ytcpmdgbogdikiaa
open Go.ChangeShapes Go.WideShapes Go.ChangeAt Go.RowKit
set_option linter.unusedVariables false
theorem OgN.refl (x : Value) (w : World) : OgN x x w := .inl rfl
theorem OgK.refl (x : Value) (w : World) : OgK x w w := ⟨rfl, rfl, rfl, Nat.le_refl _, fun _ _ _ => rfl⟩
theorem OgN.trans {x y z : Value} {w w' : World} (h : OgN x y w) (g : OgN y z w') (k : w.heap.size ≤ w'.heap.size) : OgN x z w := by
  rcases g with g | ⟨b, g, hb⟩
  · rcases h with h | ⟨b, h, hb⟩
    · exact .inl (g.trans h)
    · exact .inr ⟨b, g.trans h, hb⟩
  · exact .inr ⟨b, g, Nat.le_trans k hb⟩
theorem OgK.trans {x y : Value} {u v w : World} (h : OgK x u v) (n : OgN x y u) (k : OgK y v w) : OgK x u w :=
  ⟨k.os.trans h.os, k.tape.trans h.tape, k.output.trans h.output, Nat.le_trans h.size k.size, fun j hj hne => (k.block j (Nat.lt_of_lt_of_le hj h.size) (by
    rcases n with n | ⟨b, n, hb⟩
    · rw [n]; exact hne
    · rw [n]; intro e; injection e with e; omega)).trans (h.block j hj hne)⟩
theorem OgK.of_below {x : Value} {w w' : World} (h : Below w.heap.size w w') : OgK x w w' := ⟨h.os, h.tape, h.output, h.size, fun k hk _ => h.block k hk⟩
theorem OgK.bl {x : Value} {u v w : World} (h : Below u.heap.size u v) (k : OgK x v w) : OgK x u w := (OgK.of_below (x := x) h).trans (.inl rfl) k
theorem OgK.lb {x : Value} {u v w : World} (h : OgK x u v) (k : Below v.heap.size v w) : OgK x u w :=
  ⟨k.os.trans h.os, k.tape.trans h.tape, k.output.trans h.output, Nat.le_trans h.size k.size, fun j hj hne => (k.block j (Nat.lt_of_lt_of_le hj h.size)).trans (h.block j hj hne)⟩
theorem OgN.bl {x y : Value} {w w' : World} (g : OgN x y w') (k : w.heap.size ≤ w'.heap.size) : OgN x y w := (OgN.refl x w).trans g k
/-- Another row stays. -/
theorem Og.besides {e e' : TypeId} {B B' : Nat} {x y : Value} {V : List Value} {w w' : World} (h : Og e B x V w) (k : OgK y w w') (hne : ∀ g, ogB x = some g → ogB y ≠ some g) : Og e B x V w' := h.kept fun g hg hl => k.block g hl (hne g hg)
theorem RowIs.ogk {k : IntKind} {w w' : World} {a : Option Addr} {l : List Int} {x : Value} (h : RowIs k w a l) (hk : OgK x w w') (hne : ∀ b, a = some b → ogB x ≠ some b.block) : RowIs k w' a l := by
  rcases h with rfl | ⟨b, off, rfl, hlt, hc⟩
  · exact .inl rfl
  · exact .inr ⟨b, off, rfl, Nat.lt_of_lt_of_le hlt hk.size, fun i hi => (World.cell?_of_block (a := ⟨b, off + i, none⟩) (hk.block b hlt (hne _ rfl))).trans (hc i hi)⟩
/-- Numbers as values. -/
def nvals (k : IntKind) (L : List Int) : List Value := L.map (Value.int k)
theorem nvals_len (k : IntKind) (L : List Int) : (nvals k L).length = L.length := by simp [nvals]
theorem nvals_at {k : IntKind} {L : List Int} {i : Nat} (h : i < L.length) : (nvals k L)[i]? = some (.int k (L.getD i 0)) := by simp [nvals, List.getD, h]
theorem nvals_app (k : IntKind) (L M : List Int) : nvals k (L ++ M) = nvals k L ++ nvals k M := by simp [nvals]
theorem nvals_part (k : IntKind) (L : List Int) (i n : Nat) : ((nvals k L).drop i).take n = nvals k ((L.drop i).take n) := by simp [nvals, List.map_take, List.map_drop]
theorem nvals_one (k : IntKind) (L : List Int) : ∀ u ∈ nvals k L, u.oneCell' = true := fun u hu => by
  obtain ⟨_, _, rfl⟩ := List.mem_map.1 hu
  rfl
theorem Og.rowIs {k : IntKind} {e : TypeId} {B : Nat} {x : Value} {L : List Int} {w : World} (h : Og e B x (nvals k L) w) : ∃ ao cap, x = .slice ao L.length cap ∧ L.length ≤ cap ∧ RowIs k w ao L ∧ (ao = none → L = [] ∧ cap = 0) ∧ ∀ a, ao = some a → a.spot = none ∧ B ≤ a.block := by
  obtain ⟨ao, cap, rfl, hc, hn, hs⟩ := h.row
  rw [nvals_len] at hc ⊢
  refine ⟨ao, cap, rfl, hc, ?_, fun h => ⟨by have := (hn h).1; simpa [nvals] using this, (hn h).2⟩, fun a ha => ⟨(hs a ha).1, (hs a ha).2.1⟩⟩
  cases ao with
  | none => exact .inl (by have := (hn rfl).1; simpa [nvals] using this)
  | some a =>
    obtain ⟨b, off, sp⟩ := a
    obtain ⟨h1, h2, h3, h4⟩ := hs _ rfl
    have h1 : sp = none := h1
    subst h1
    exact .inr ⟨b, off, rfl, h3, fun i hi => h4 i _ (nvals_at hi)⟩
/-- What may be appended: new cells, an own row, a row that came in. -/
theorem src_new (t e' e : TypeId) (ht : Try.prog.underlying t = some (.slice e')) (w : World) (vs : List Value) (h1 : ∀ u ∈ vs, u.oneCell' = true) : Src Try.prog 1 t (.slice (some ⟨w.heap.size, 0, none⟩) vs.length vs.length) vs.length vs (w.alloc (.cells vs.toArray e)) :=
  Src.ofSlice _ ht ⟨w.heap.size, 0, none⟩ vs.length vs.length vs (by simp) (fun j u hu => by
    rw [Addr.add_lit, Nat.zero_add, cell_of_row _ w.heap.size j vs.toArray e (0, 0) (heap_alloc_new w _)]
    simpa using hu) h1
theorem Og.src {e e' t : TypeId} (ht : Try.prog.underlying t = some (.slice e')) {B : Nat} {x : Value} {V : List Value} {w : World} (h : Og e B x V w) (h1 : ∀ u ∈ V, u.oneCell' = true) : Src Try.prog 1 t x V.length V w := by
  obtain ⟨ao, cap, rfl, hc, hn, hs⟩ := h.row
  cases ao with
  | none =>
    obtain ⟨rfl, rfl⟩ := hn rfl
    exact Src.ofNil w ht 0
  | some a =>
    obtain ⟨b, off, sp⟩ := a
    obtain ⟨g1, g2, g3, g4⟩ := hs _ rfl
    have g1 : sp = none := g1
    subst g1
    exact Src.ofSlice w ht ⟨b, off, none⟩ V.length cap V (by simp) (fun j u hu => by rw [Addr.add_lit]; exact g4 j u hu) h1
theorem RowIs.src {k : IntKind} {e' t : TypeId} (ht : Try.prog.underlying t = some (.slice e')) {w : World} {a : Option Addr} {L : List Int} (h : RowIs k w a L) (cap : Nat) : Src Try.prog 1 t (.slice a L.length cap) L.length (nvals k L) w := by
  rcases h with rfl | ⟨b, off, rfl, hlt, hc⟩
  · cases a with
    | none => exact Src.ofNil w ht cap
    | some a => exact Src.ofSlice w ht a 0 cap [] (by simp) (fun j u hu => by cases hu) (fun u hu => by cases hu)
  · exact Src.ofSlice w ht ⟨b, off, none⟩ L.length cap (nvals k L) (by simp [nvals]) (fun j u hu => by
      have hj : j < L.length := by have := (List.getElem?_eq_some_iff.1 hu).1; rwa [nvals_len] at this
      rw [nvals_at hj] at hu
      rw [Addr.add_lit, hc j hj, hu]) (nvals_one k L)
/-- A new row of cells is an own row. -/
theorem Og.new (e : TypeId) (w : World) (vs : List Value) : Og e w.heap.size (.slice (some ⟨w.heap.size, 0, none⟩) vs.length vs.length) vs (w.alloc (.cells vs.toArray e)) :=
  .inr ⟨w.heap.size, 0, vs.length, vs.toArray, rfl, Nat.le_refl _, heap_alloc_new w _, Nat.le_refl _, by simp, fun i hi => by simp⟩
end Go.Proofs.Ytcpmdgbogdikiaa
