/- A row of values of one cell each that a function keeps: appended to (with room or without, whatever is appended), cut at its start or end; block B and those behind it may hold it. -/
import Derived.Test.YtcpmdgbogdikiaaBase
import Derived.ArgAppend
import Derived.Deep.AppendLies
import Derived.Deep.AppendSrc
import Derived.Laws.OwnMore
namespace Go.Proofs.Ytcpmdgbogdikiaa
open Go.ChangeShapes Go.WideShapes Go.ChangeAt Go.RowKit
set_option linter.unusedVariables false

theorem og_parts {t : TypeId} {z : Value} {n b : Nat} (h : (Try.prog.info? t).map (fun i => (i.zero, i.size, i.bytes)) = some (some z, n, b)) : ∃ i, Try.prog.info? t = some i ∧ i.zero = some z ∧ i.size = n ∧ i.bytes = b := by
  cases e : Try.prog.info? t with
  | none => rw [e] at h; cases h
  | some i =>
    rw [e] at h
    injection h with h
    injection h with h1 h
    injection h with h2 h3
    exact ⟨i, rfl, h1, h2, h3⟩
theorem ogset_at (g : Nat) (t : TypeId) : ∀ (vs : List Value) (o : Nat) (w : World) (cur : Array Value), w.heap[g]? = some (.cells cur t (0, 0)) → o + vs.length ≤ cur.size → ∃ cur', (w.setCells g o vs).heap[g]? = some (.cells cur' t (0, 0)) ∧ cur'.size = cur.size ∧ (∀ j, j < vs.length → cur'[o + j]? = vs[j]?) ∧ ∀ i, i < o ∨ o + vs.length ≤ i → cur'[i]? = cur[i]?
  | [], o, w, cur, hg, _ => ⟨cur, hg, rfl, fun j hj => absurd hj (by simp), fun _ _ => rfl⟩
  | v :: r, o, w, cur, hg, hl => by
    have hl' : o + (r.length + 1) ≤ cur.size := hl
    obtain ⟨cur', h1, h2, h3, h4⟩ := ogset_at g t r (o + 1) (w.setCell ⟨g, o, none⟩ v) (cur.setIfInBounds o v) (heap_setCell_same w g o cur t v hg) (by simp; omega)
    refine ⟨cur', h1, by simpa using h2, fun j hj => ?_, fun i hi => ?_⟩
    · rcases j with _ | j
      · rw [h4 (o + 0) (by omega)]
        simp [show o < cur.size by omega]
      · have hj' : j < r.length := by simpa using hj
        rw [show o + (j + 1) = o + 1 + j by omega, h3 j hj']
        simp
    · have hi' : i < o ∨ o + (r.length + 1) ≤ i := hi
      rw [h4 i (by omega), Array.getElem?_setIfInBounds_ne (by omega)]
theorem ogset_ne (g : Nat) : ∀ (vs : List Value) (o : Nat) (w : World) {k : Nat}, k ≠ g → (w.setCells g o vs).heap[k]? = w.heap[k]?
  | [], _, _, _, _ => rfl
  | v :: r, o, w, k, hk => (ogset_ne g r (o + 1) (w.setCell ⟨g, o, none⟩ v) hk).trans (Below.heap_setCell _ _ _ _ hk)
theorem ogset_st (g : Nat) : ∀ (vs : List Value) (o : Nat) (w : World), (w.setCells g o vs).heap.size = w.heap.size ∧ (w.setCells g o vs).os = w.os ∧ (w.setCells g o vs).tape = w.tape ∧ (w.setCells g o vs).output = w.output
  | [], _, _ => ⟨rfl, rfl, rfl, rfl⟩
  | v :: r, o, w => by
    obtain ⟨h1, h2, h3, h4⟩ := ogset_st g r (o + 1) (w.setCell ⟨g, o, none⟩ v)
    exact ⟨h1.trans (by simp), h2, h3, h4⟩
/-- Such a row: x is its slice, V its values. -/
def Og (e : TypeId) (B : Nat) (x : Value) (V : List Value) (w : World) : Prop :=
  (x = .slice none 0 0 ∧ V = []) ∨ ∃ g off cap cur, x = .slice (some ⟨g, off, none⟩) V.length cap ∧ B ≤ g ∧ w.heap[g]? = some (.cells cur e (0, 0)) ∧ V.length ≤ cap ∧ off + cap ≤ cur.size ∧ ∀ i, i < V.length → cur[off + i]? = V[i]?
/-- The block it lies in. -/
def ogB : Value → Option Nat
  | .slice (some a) _ _ => some a.block
  | _ => none
theorem Og.nil (e : TypeId) (B : Nat) (w : World) : Og e B (.slice none 0 0) [] w := .inl ⟨rfl, rfl⟩
theorem Og.kept {e : TypeId} {B : Nat} {x : Value} {V : List Value} {w w' : World} (h : Og e B x V w) (k : ∀ g, ogB x = some g → g < w.heap.size → w'.heap[g]? = w.heap[g]?) : Og e B x V w' := by
  rcases h with h | ⟨g, off, cap, cur, rfl, hB, hg, r⟩
  · exact .inl h
  · refine .inr ⟨g, off, cap, cur, rfl, hB, ?_, r⟩
    rw [k g rfl (by rcases Nat.lt_or_ge g w.heap.size with q | q; exact q; rw [Array.getElem?_eq_none q] at hg; cases hg), hg]
theorem Og.bel {e : TypeId} {B : Nat} {x : Value} {V : List Value} {w w' : World} (h : Og e B x V w) (k : Below w.heap.size w w') : Og e B x V w' := h.kept fun g _ hg => k.block g hg
theorem Og.drew {e : TypeId} {B : Nat} {x : Value} {V : List Value} {w : World} (h : Og e B x V w) : Og e B x V w.drew := h.bel (Below.refl _ _).drew
theorem Og.mono {e : TypeId} {B B' : Nat} {x : Value} {V : List Value} {w : World} (h : Og e B x V w) (hb : B' ≤ B) : Og e B' x V w := by
  rcases h with h | ⟨g, off, cap, cur, rfl, hB, r⟩
  · exact .inl h
  · exact .inr ⟨g, off, cap, cur, rfl, Nat.le_trans hb hB, r⟩
theorem Og.lt {e : TypeId} {B : Nat} {x : Value} {V : List Value} {w : World} (h : Og e B x V w) {g : Nat} (hg : ogB x = some g) : B ≤ g ∧ g < w.heap.size := by
  rcases h with ⟨rfl, _⟩ | ⟨g', off, cap, cur, rfl, hB, hgg, _⟩
  · cases hg
  · injection hg with hg
    subst hg
    exact ⟨hB, by rcases Nat.lt_or_ge g' w.heap.size with q | q; exact q; rw [Array.getElem?_eq_none q] at hgg; cases hgg⟩
/-- As a slice and its cells. -/
theorem Og.row {e : TypeId} {B : Nat} {x : Value} {V : List Value} {w : World} (h : Og e B x V w) : ∃ ao cap, x = .slice ao V.length cap ∧ V.length ≤ cap ∧ (ao = none → V = [] ∧ cap = 0) ∧ ∀ a, ao = some a → a.spot = none ∧ B ≤ a.block ∧ a.block < w.heap.size ∧ ∀ i v, V[i]? = some v → w.cell? ⟨a.block, a.off + i, none⟩ = some v := by
  rcases h with ⟨rfl, rfl⟩ | ⟨g, off, cap, cur, rfl, hB, hg, hc, hs, hx⟩
  · exact ⟨none, 0, rfl, Nat.le_refl _, fun _ => ⟨rfl, rfl⟩, fun a h => by cases h⟩
  · refine ⟨some ⟨g, off, none⟩, cap, rfl, hc, (fun e => by cases e), fun a ha => ?_⟩
    injection ha with ha
    subst ha
    refine ⟨rfl, hB, ?_, fun i v hv => ?_⟩
    · rcases Nat.lt_or_ge g w.heap.size with q | q
      · exact q
      · rw [Array.getElem?_eq_none q] at hg; cases hg
    · rw [cell_of_row w g (off + i) cur _ (0, 0) hg]
      have hi : i < V.length := (List.getElem?_eq_some_iff.1 hv).1
      show cur[off + i]? = some v
      rw [hx i hi, hv]
/-- A part of it. -/
theorem Og.part {e : TypeId} {B g off cap n : Nat} {V : List Value} {w : World} (h : Og e B (.slice (some ⟨g, off, none⟩) n cap) V w) {i j c : Nat} (hij : i ≤ j) (hj : j ≤ V.length) (hc : j - i ≤ c) (hcc : i + c ≤ cap) : Og e B (.slice (some ⟨g, off + i, none⟩) (j - i) c) ((V.drop i).take (j - i)) w := by
  rcases h with ⟨e, _⟩ | ⟨g', off', cap', cur, e, hB, hg, hc', hs, hx⟩
  · cases e
  · injection e with e1 e2 e3
    injection e1 with e1
    injection e1 with e4 e5
    subst e2 e3 e4 e5
    have hl : ((V.drop i).take (j - i)).length = j - i := by simp; omega
    refine .inr ⟨g, off + i, c, cur, by rw [hl], hB, hg, by rw [hl]; exact hc, by omega, fun k hk => ?_⟩
    rw [hl] at hk
    rw [Nat.add_assoc, hx (i + k) (by omega)]
    simp [List.getElem?_drop, hk]
/-- What may have changed: nothing of the old but the row's own block. -/
structure OgK (x : Value) (w w' : World) : Prop where
  os : w'.os = w.os
  tape : w'.tape = w.tape
  output : w'.output = w.output
  size : w.heap.size ≤ w'.heap.size
  block : ∀ k, k < w.heap.size → ogB x ≠ some k → w'.heap[k]? = w.heap[k]?
theorem OgK.below {e : TypeId} {B : Nat} {x : Value} {V : List Value} {w w' : World} (k : OgK x w w') (h : Og e B x V w) (hB : B ≤ w.heap.size) : Below B w w' :=
  ⟨k.os, k.tape, k.output, k.size, fun j hj => k.block j (by omega) (fun e => by have := (h.lt e).1; omega)⟩
theorem OgK.bel {x : Value} {w w' : World} (k : OgK x w w') {B : Nat} (h : ∀ g, ogB x = some g → B ≤ g) (hB : B ≤ w.heap.size) : Below B w w' :=
  ⟨k.os, k.tape, k.output, k.size, fun j hj => k.block j (by omega) (fun e => by have := h _ e; omega)⟩
/-- Where the next slice of such a row lies. -/
def OgN (x x' : Value) (w : World) : Prop := ogB x' = ogB x ∨ ∃ g, ogB x' = some g ∧ w.heap.size ≤ g
theorem run_append_nil_src (w : World) (t tx ty e : TypeId) (i : TypeInfo) (ht : Try.prog.underlying t = some (.slice e)) (hi : Try.prog.info? e = some i) (x : Value) (hs : Src Try.prog i.size tx x 0 [] w) :
    (Builtin.append_ #[t, tx] ty #[.slice none 0 0, x]).run Try.prog w = .ok (.slice none 0 0) w := by
  rcases hs.kind with ⟨e', hk⟩ | hk <;> simp [Builtin.append_, run_underlying ht, run_underlying hk, sizeOf, typeInfo, hi, hs.len, hs.cells]
theorem wpList_append_og {ops : Array Oper} {rest : List Oper} {o : Oper} {a : Act} {Q : Exit → Act → World → Prop} (w : World) (hg : o.guard = none) (s xo : Operand) (t tx : TypeId)
    (hop : o.op = Op.call { callee := Callee.builtin Builtin.append, args := #[s, xo], argTypes := #[t, tx] })
    (e : TypeId) (z : Value) (by' : Nat) (ht : Try.prog.underlying t = some (.slice e)) (hinf : (Try.prog.info? e).map (fun i => (i.zero, i.size, i.bytes)) = some (some z, 1, by')) (hzc : z.cells.size = 1)
    (B : Nat) (x : Value) (V : List Value) (hs : a.eval s = x) (hO : Og e B x V w) (hB : B ≤ w.heap.size) (y : Value) (n : Nat) (C : List Value) (hx : a.eval xo = y) (hsrc : Src Try.prog 1 tx y n C w)
    (b1 : V.length + n ≤ maxLen) (b2 : (V.length + n) * by' ≤ 140737488355328)
    (hK : ∀ x' w', Og e B x' (V ++ C) w' → OgK x w w' → OgN x x' w → wpList Try.prog ops Q rest (a.put o.dst x') w') : wpList Try.prog ops Q (o :: rest) a w := by
  obtain ⟨i0, hi, hz0, hz1, hz2⟩ := og_parts hinf
  have hnl : C.length = n := by have := hsrc.newsLen; omega
  have hln : (V ++ C).length = V.length + n := by simp [hnl]
  have hsrc' : Src Try.prog i0.size tx y n C w := by rw [hz1]; exact hsrc
  refine wpList_plain hg fun K hK' => ?_
  have fin : ∀ v' w', (Builtin.append_ #[t, tx] o.type #[x, y]).run Try.prog w = .ok v' w' → K (a.put o.dst v') w' → o.wp Try.prog a w K Q := by
    intro v' w' hrun hk
    unfold Oper.wp
    simp [execOp, hop, resolve, invoke, builtin, hs, hx, hrun, Result.andThen]
    exact hk
  have grow : ∀ (ao : Option Addr) (m cap : Nat) (olds : List Value), olds.length = m → x = .slice ao m cap → V = olds → (Builtin.firstCells i0.size m (.slice ao m cap)).run Try.prog w.drew = .ok olds.toArray w.drew → cap < m + n → o.wp Try.prog a w K Q := by
    intro ao m cap olds hlo hxe hV hold hlt
    subst hlo hV
    have hr := run_append_grow_src (P := Try.prog) w t tx o.type e i0 z ht hi hz0 ao V.length cap V hold y n C hsrc' hlt (by unfold maxLen at b1; omega) (by rw [hz2]; exact growslice_fits hlt b2)
    have hge := grownCap_ge w (V.length + n) cap e
    refine fin _ _ (by rw [hxe]; exact hr) (hK' _ _ (hK _ _ (.inr ⟨w.heap.size, 0, _, _, by rw [hln], hB, heap_alloc_new w.drew _, by rw [hln]; exact hge, ?_, fun i hi => ?_⟩) ⟨rfl, rfl, rfl, by simp, fun k hk _ => heap_alloc_old w.drew _ hk⟩ (.inr ⟨_, rfl, Nat.le_refl _⟩)))
    · simp only [Array.size_append, List.size_toArray, size_zeroCells, hzc, hln]
      omega
    · rw [Nat.zero_add, Array.getElem?_append_left (by simpa using hi)]
      simp
  rcases hO with ⟨rfl, rfl⟩ | ⟨g, off, cap, cur, rfl, hBg, hgg, hcap, hsz, hxs⟩
  · by_cases h0 : n = 0
    · subst h0
      obtain rfl := List.eq_nil_of_length_eq_zero hnl
      exact fin _ w (run_append_nil_src w t tx o.type e i0 ht hi y hsrc') (hK' _ _ (hK _ w (.inl ⟨rfl, rfl⟩) ⟨rfl, rfl, rfl, Nat.le_refl _, fun _ _ _ => rfl⟩ (.inl rfl)))
    · exact grow none 0 0 [] rfl rfl rfl (run_firstCells_none w.drew i0.size 0 0 0) (by omega)
  · have hglt : g < w.heap.size := by
      rcases Nat.lt_or_ge g w.heap.size with q | q
      · exact q
      · rw [Array.getElem?_eq_none q] at hgg; cases hgg
    by_cases hr : V.length + n ≤ cap
    · have hrun := run_append_room_src (P := Try.prog) w t tx o.type e i0 ht hi g off V.length cap y n C hsrc' hr (fun j hj => by
          rw [hz1, Nat.mul_one, cell_of_row w g _ cur _ (0, 0) hgg, Array.getElem?_eq_getElem (by omega)]; rfl) (fun j hj => by rw [hz1, Nat.mul_one]; exact frozen_of_row w g _ cur _ hgg)
      rw [hz1, Nat.mul_one] at hrun
      obtain ⟨cur', h1, h2, h3, h4⟩ := ogset_at g e C (off + V.length) w cur hgg (by omega)
      obtain ⟨s1, s2, s3, s4⟩ := ogset_st g C (off + V.length) w
      refine fin _ _ hrun (hK' _ _ (hK _ _ (.inr ⟨g, off, cap, cur', by rw [hln], hBg, h1, by omega, by omega, fun i hi => ?_⟩) ⟨s2, s3, s4, Nat.le_of_eq s1.symm, fun k hk hne => ogset_ne g C _ w (fun e => hne (by rw [e]; rfl))⟩ (.inl rfl)))
      by_cases hlt : i < V.length
      · rw [h4 _ (by omega), hxs i hlt, List.getElem?_append_left hlt]
      · rw [show off + i = off + V.length + (i - V.length) by omega, h3 _ (by omega), List.getElem?_append_right (by omega)]
    · refine grow (some ⟨g, off, none⟩) V.length cap V rfl rfl rfl ?_ (by omega)
      refine run_firstCells_some w.drew i0.size V.length ⟨g, off, none⟩ V.length cap V (by rw [hz1, Nat.mul_one]) (fun j u hu => ?_)
      have hj : j < V.length := (List.getElem?_eq_some_iff.1 hu).1
      rw [Addr.add_lit, World.cell?_drew, cell_of_row w g (off + j) cur _ (0, 0) hgg, hxs j hj, hu]
end Go.Proofs.Ytcpmdgbogdikiaa
