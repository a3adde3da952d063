/- A row of numbers that a function keeps in a local variable: appended to (with room or without), and cut at its start; block B and those behind it may hold it. -/
import Derived.Test.YtecpmffmmiogfaaGreatMgAg
import Derived.ArgAppend
import Derived.Deep.AppendLies
import Derived.Laws.OwnMore
namespace Go.Proofs.YtecpmffmmiogfaaGreat
open Go.ChangeShapes Go.WideShapes Go.ChangeAt Go.RowKit
set_option linter.unusedVariables false

theorem ow_info : (Tryz.prog.info? 2).map (fun i => (i.zero, i.size, i.bytes)) = some (some (.int .i64 0), 1, 8) := by kernel_rfl
theorem ow_parts {t : TypeId} {z : Value} {n b : Nat} (h : (Tryz.prog.info? t).map (fun i => (i.zero, i.size, i.bytes)) = some (some z, n, b)) : ∃ i, Tryz.prog.info? t = some i ∧ i.zero = some z ∧ i.size = n ∧ i.bytes = b := by
  cases e : Tryz.prog.info? t with
  | none => rw [e] at h; cases h
  | some i =>
    rw [e] at h
    injection h with h
    injection h with h1 h
    injection h with h2 h3
    exact ⟨i, rfl, h1, h2, h3⟩
def ovals (l : List Int) : List Value := l.map (Value.int .i64)
theorem ovals_at {l : List Int} {k : Nat} (h : k < l.length) : (ovals l)[k]? = some (.int .i64 (l.getD k 0)) := by simp [ovals, List.getD, h]
/-- Such a row: x is its slice, L its numbers. -/
def Ow (B : Nat) (x : Value) (L : List Int) (w : World) : Prop :=
  (x = .slice none 0 0 ∧ L = []) ∨ ∃ g off cap cur, x = .slice (some ⟨g, off, none⟩) L.length cap ∧ B ≤ g ∧ w.heap[g]? = some (.cells cur 2 (0, 0)) ∧ L.length ≤ cap ∧ off + cap ≤ cur.size ∧ ∀ i, i < L.length → cur[off + i]? = some (.int .i64 (L.getD i 0))
/-- The block it lies in. -/
def owB : Value → Option Nat
  | .slice (some a) _ _ => some a.block
  | _ => none
theorem Ow.nil (B : Nat) (w : World) : Ow B (.slice none 0 0) [] w := .inl ⟨rfl, rfl⟩
theorem Ow.kept {B : Nat} {x : Value} {L : List Int} {w w' : World} (h : Ow B x L w) (k : ∀ g, owB x = some g → g < w.heap.size → w'.heap[g]? = w.heap[g]?) : Ow B x L w' := by
  rcases h with h | ⟨g, off, cap, cur, rfl, hB, hg, r⟩
  · exact .inl h
  · refine .inr ⟨g, off, cap, cur, rfl, hB, ?_, r⟩
    rw [k g rfl (by rcases Nat.lt_or_ge g w.heap.size with q | q; exact q; rw [Array.getElem?_eq_none q] at hg; cases hg), hg]
theorem Ow.bel {B : Nat} {x : Value} {L : List Int} {w w' : World} (h : Ow B x L w) (k : Below w.heap.size w w') : Ow B x L w' := h.kept fun g _ hg => k.block g hg
theorem Ow.lt {B : Nat} {x : Value} {L : List Int} {w : World} (h : Ow B x L w) {g : Nat} (hg : owB x = some g) : B ≤ g ∧ g < w.heap.size := by
  rcases h with ⟨rfl, _⟩ | ⟨g', off, cap, cur, rfl, hB, hgg, _⟩
  · cases hg
  · injection hg with hg
    subst hg
    exact ⟨hB, by rcases Nat.lt_or_ge g' w.heap.size with q | q; exact q; rw [Array.getElem?_eq_none q] at hgg; cases hgg⟩
/-- As a slice and its row. -/
theorem Ow.row {B : Nat} {x : Value} {L : List Int} {w : World} (h : Ow B x L w) : ∃ ao cap, x = .slice ao L.length cap ∧ RowIs .i64 w ao L ∧ (ao = none → L = []) := by
  rcases h with ⟨rfl, rfl⟩ | ⟨g, off, cap, cur, rfl, hB, hg, hc, hs, hx⟩
  · exact ⟨none, 0, rfl, .inl rfl, fun _ => rfl⟩
  · refine ⟨some ⟨g, off, none⟩, cap, rfl, .inr ⟨g, off, rfl, ?_, fun i hi => ?_⟩, fun e => by cases e⟩
    · rcases Nat.lt_or_ge g w.heap.size with q | q
      · exact q
      · rw [Array.getElem?_eq_none q] at hg; cases hg
    · rw [cell_of_row w g (off + i) cur _ (0, 0) hg]
      exact hx i hi
/-- Its start cut off. -/
theorem Ow.tail {B g off cap : Nat} {L : List Int} {w : World} (h : Ow B (.slice (some ⟨g, off, none⟩) L.length cap) L w) {k : Nat} (hk : k ≤ L.length) : Ow B (.slice (some ⟨g, off + k, none⟩) (L.length - k) (cap - k)) (L.drop k) w := by
  rcases h with ⟨e, _⟩ | ⟨g', off', cap', cur, e, hB, hg, hc, hs, hx⟩
  · cases e
  · injection e with e1 e2 e3
    injection e1 with e1
    injection e1 with e4 e5
    subst e3 e4 e5
    refine .inr ⟨g, off + k, cap - k, cur, by rw [List.length_drop], hB, hg, by rw [List.length_drop]; omega, by omega, fun i hi => ?_⟩
    rw [List.length_drop] at hi
    rw [Nat.add_assoc, hx (k + i) (by omega)]
    simp [List.getD, List.getElem?_drop]
/-- What may have changed: nothing of the old but the row's own block. -/
structure OwK (x : Value) (w w' : World) : Prop where
  os : w'.os = w.os
  tape : w'.tape = w.tape
  output : w'.output = w.output
  size : w.heap.size ≤ w'.heap.size
  block : ∀ k, k < w.heap.size → owB x ≠ some k → w'.heap[k]? = w.heap[k]?
theorem OwK.below {B : Nat} {x : Value} {L : List Int} {w w' : World} (k : OwK x w w') (h : Ow B x L w) (hB : B ≤ w.heap.size) : Below B w w' :=
  ⟨k.os, k.tape, k.output, k.size, fun j hj => k.block j (by omega) (fun e => by have := (h.lt e).1; omega)⟩
theorem wpList_append_ow {ops : Array Oper} {rest : List Oper} {o : Oper} {a : Act} {Q : Exit → Act → World → Prop} (w : World) (hg : o.guard = none) (s xo : Operand)
    (hop : o.op = Op.call { callee := Callee.builtin Builtin.append, args := #[s, xo], argTypes := #[37, 37] })
    (B : Nat) (x : Value) (L : List Int) (c : Int) (hs : a.eval s = x) (hO : Ow B x L w) (hB : B ≤ w.heap.size) (b0 : Nat) (hx : a.eval xo = .slice (some ⟨b0, 0, none⟩) 1 1) (hc : w.cell? ⟨b0, 0, none⟩ = some (.int .i64 c)) (hL : L.length ≤ 1000000)
    (hK : ∀ x' w', Ow B x' (L ++ [c]) w' → OwK x w w' → (owB x' = owB x ∨ ∃ g, owB x' = some g ∧ w.heap.size ≤ g) → wpList Tryz.prog ops Q rest (a.put o.dst x') w') : wpList Tryz.prog ops Q (o :: rest) a w := by
  obtain ⟨i0, hi, hz0, hz1, hz2⟩ := ow_parts ow_info
  have hnews : ∀ j u, [Value.int .i64 c][j]? = some u → w.cell? ((⟨b0, 0, none⟩ : Addr).add j) = some u := by
    intro j u hu
    rcases j with _ | j
    · simp at hu
      subst hu
      rw [show (⟨b0, 0, none⟩ : Addr).add 0 = ⟨b0, 0, none⟩ by simp [Addr.add]]
      exact hc
    · simp at hu
  have hone : ∀ u ∈ [Value.int .i64 c], u.oneCell' = true := fun u hu => by simp at hu; subst hu; rfl
  have hsn : ovals L ++ [.int .i64 c] = ovals (L ++ [c]) := by simp [ovals]
  have hln : (L ++ [c]).length = L.length + 1 := by simp
  have grow : ∀ v' w', w'.ownsRow w.heap.size 2 1 v' (L.length + 1) (ovals L ++ [.int .i64 c]) → w.grownBy w' none → wpList Tryz.prog ops Q rest (a.put o.dst v') w' := by
    intro v' w' ho hgr
    rw [hsn] at ho
    rcases ho.2 with ⟨_, e⟩ | ⟨g, cap, cur, rfl, hb, hgg, hle, hm, hsz, ht⟩
    · omega
    · refine hK _ w' (.inr ⟨g, 0, cap, cur, by rw [hln], Nat.le_trans hB hb, hgg, by rw [hln]; exact hle, by omega, fun i hi => ?_⟩) ⟨hgr.os, hgr.tape, hgr.output, hgr.size, fun k hk _ => hgr.block k hk (by simp)⟩ (.inr ⟨g, rfl, hb⟩)
      have q := ovals_at hi
      rw [← ht, List.getElem?_take, if_pos (by rw [hln] at hi; omega)] at q
      rw [Nat.zero_add]
      simpa using q
  rcases hO with ⟨rfl, rfl⟩ | ⟨g, off, cap, cur, rfl, hBg, hgg, hcap, hsz, hxs⟩
  · exact wpList_append_grows w hg s xo 37 hop 2 i0 (.int .i64 0) 1 8 Tryz.underlying37 hi hz0 hz1 hz2 rfl (by decide) none 0 0 [] hs (fun _ => ⟨rfl, rfl⟩) rfl (fun b hb => by cases hb) ⟨b0, 0, none⟩ 1 1 [.int .i64 c] hx rfl hnews hone (by decide) (by decide) (by decide) grow
  · have hol : ∀ j u, (ovals L)[j]? = some u → w.cell? ⟨g, off + j, none⟩ = some u := by
      intro j u hu
      have hj : j < L.length := by
        obtain ⟨q, _⟩ := List.getElem?_eq_some_iff.1 hu
        simpa [ovals] using q
      rw [ovals_at hj] at hu
      rw [cell_of_row w g (off + j) cur _ (0, 0) hgg, hxs j hj, hu]
    have hglt : g < w.heap.size := by
      rcases Nat.lt_or_ge g w.heap.size with q | q
      · exact q
      · rw [Array.getElem?_eq_none q] at hgg; cases hgg
    refine wpList_append_arg w hg s xo 37 hop 2 i0 (.int .i64 0) 1 8 Tryz.underlying37 hi hz0 hz1 hz2 rfl (by decide) g off L.length cap (ovals L) hs (by simp [ovals]) hol ⟨b0, 0, none⟩ 1 1 [.int .i64 c] hx rfl hnews hone ?_ (by unfold maxLen; omega) (by omega) ?_ (fun _ => grow)
    · intro hr j hj
      have hj0 : j = 0 := by simp at hj; omega
      subst hj0
      have hlt : off + L.length * 1 + 0 < cur.size := by omega
      refine ⟨?_, ?_⟩
      · rw [cell_of_row w g _ cur _ (0, 0) hgg, Array.getElem?_eq_getElem hlt]
        rfl
      · exact frozen_of_row w g _ cur _ hgg
    · intro hr
      have e1 : w.setCells g (off + L.length * 1) [.int .i64 c] = w.setCell ⟨g, off + L.length, none⟩ (.int .i64 c) := by rw [Nat.mul_one]; rfl
      rw [e1]
      have hset := heap_setCell_same w g (off + L.length) cur 2 (.int .i64 c) hgg
      refine hK _ _ (.inr ⟨g, off, cap, cur.setIfInBounds (off + L.length) (.int .i64 c), by rw [hln], hBg, hset, by rw [hln]; exact hr, by simpa using hsz, fun i hi => ?_⟩) ⟨rfl, rfl, rfl, by simp, fun k hk hne => Below.heap_setCell _ _ _ _ (by show k ≠ g; intro e; exact hne (by rw [e]; rfl))⟩ (.inl rfl)
      rw [hln] at hi
      have hlt : off + L.length < cur.size := by omega
      by_cases e : i = L.length
      · subst e
        simp [List.getD, hlt]
      · have hi' : i < L.length := by omega
        rw [Array.getElem?_setIfInBounds_ne (by omega), hxs i hi']
        rw [show (L ++ [c]).getD i 0 = L.getD i 0 from by simp [List.getD, List.getElem?_append_left hi']]
end Go.Proofs.YtecpmffmmiogfaaGreat
