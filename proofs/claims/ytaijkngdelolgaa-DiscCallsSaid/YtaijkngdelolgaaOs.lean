/- A row of strings that a function keeps in a local variable: appended to (with room or without), and cut at its start; block B and those behind it may hold it. -/
import Derived.Test.YtaijkngdelolgaaBase
import Derived.ArgAppend
import Derived.Deep.AppendLies
import Derived.Laws.OwnMore
namespace Go.Proofs.Ytaijkngdelolgaa
open Go.ChangeShapes Go.WideShapes Go.ChangeAt Go.RowKit
set_option linter.unusedVariables false

theorem os_info : (Try.prog.info? 9).map (fun i => (i.zero, i.size, i.bytes)) = some (some (.string ⟨#[]⟩), 1, 16) := by kernel_rfl
theorem os_parts {t : TypeId} {z : Value} {n b : Nat} (h : (Try.prog.info? t).map (fun i => (i.zero, i.size, i.bytes)) = some (some z, n, b)) : ∃ i, Try.prog.info? t = some i ∧ i.zero = some z ∧ i.size = n ∧ i.bytes = b := by
  cases e : Try.prog.info? t with
  | none => rw [e] at h; cases h
  | some i =>
    rw [e] at h
    injection h with h
    injection h with h1 h
    injection h with h2 h3
    exact ⟨i, rfl, h1, h2, h3⟩
def svals (l : List ByteArray) : List Value := l.map (Value.string)
theorem svals_at {l : List ByteArray} {k : Nat} (h : k < l.length) : (svals l)[k]? = some (.string (l.getD k ⟨#[]⟩)) := by simp [svals, List.getD, h]
/-- Such a row: x is its slice, L its numbers. -/
def Osr (B : Nat) (x : Value) (L : List ByteArray) (w : World) : Prop :=
  (x = .slice none 0 0 ∧ L = []) ∨ ∃ g off cap cur, x = .slice (some ⟨g, off, none⟩) L.length cap ∧ B ≤ g ∧ w.heap[g]? = some (.cells cur 9 (0, 0)) ∧ L.length ≤ cap ∧ off + cap ≤ cur.size ∧ ∀ i, i < L.length → cur[off + i]? = some (.string (L.getD i ⟨#[]⟩))
/-- The block it lies in. -/
def osB : Value → Option Nat
  | .slice (some a) _ _ => some a.block
  | _ => none
theorem Osr.nil (B : Nat) (w : World) : Osr B (.slice none 0 0) [] w := .inl ⟨rfl, rfl⟩
theorem Osr.kept {B : Nat} {x : Value} {L : List ByteArray} {w w' : World} (h : Osr B x L w) (k : ∀ g, osB x = some g → g < w.heap.size → w'.heap[g]? = w.heap[g]?) : Osr B x L w' := by
  rcases h with h | ⟨g, off, cap, cur, rfl, hB, hg, r⟩
  · exact .inl h
  · refine .inr ⟨g, off, cap, cur, rfl, hB, ?_, r⟩
    rw [k g rfl (by rcases Nat.lt_or_ge g w.heap.size with q | q; exact q; rw [Array.getElem?_eq_none q] at hg; cases hg), hg]
theorem Osr.bel {B : Nat} {x : Value} {L : List ByteArray} {w w' : World} (h : Osr B x L w) (k : Below w.heap.size w w') : Osr B x L w' := h.kept fun g _ hg => k.block g hg
theorem Osr.lt {B : Nat} {x : Value} {L : List ByteArray} {w : World} (h : Osr B x L w) {g : Nat} (hg : osB x = some g) : B ≤ g ∧ g < w.heap.size := by
  rcases h with ⟨rfl, _⟩ | ⟨g', off, cap, cur, rfl, hB, hgg, _⟩
  · cases hg
  · injection hg with hg
    subst hg
    exact ⟨hB, by rcases Nat.lt_or_ge g' w.heap.size with q | q; exact q; rw [Array.getElem?_eq_none q] at hgg; cases hgg⟩
/-- Its start cut off. -/
theorem Osr.tail {B g off cap : Nat} {L : List ByteArray} {w : World} (h : Osr B (.slice (some ⟨g, off, none⟩) L.length cap) L w) {k : Nat} (hk : k ≤ L.length) : Osr B (.slice (some ⟨g, off + k, none⟩) (L.length - k) (cap - k)) (L.drop k) w := by
  rcases h with ⟨e, _⟩ | ⟨g', off', cap', cur, e, hB, hg, hc, hs, hx⟩
  · cases e
  · injection e with e1 e2 e3
    injection e1 with e1
    injection e1 with e4 e5
    subst e3 e4 e5
    refine .inr ⟨g, off + k, cap - k, cur, by rw [List.length_drop], hB, hg, by rw [List.length_drop]; omega, by omega, fun i hi => ?_⟩
    rw [List.length_drop] at hi
    rw [Nat.add_assoc, hx (k + i) (by omega)]
    simp [List.getD, List.getElem?_drop]
/-- What may have changed: nothing of the old but the row's own block. -/
structure OsK (x : Value) (w w' : World) : Prop where
  os : w'.os = w.os
  tape : w'.tape = w.tape
  output : w'.output = w.output
  size : w.heap.size ≤ w'.heap.size
  block : ∀ k, k < w.heap.size → osB x ≠ some k → w'.heap[k]? = w.heap[k]?
theorem OsK.below {B : Nat} {x : Value} {L : List ByteArray} {w w' : World} (k : OsK x w w') (h : Osr B x L w) (hB : B ≤ w.heap.size) : Below B w w' :=
  ⟨k.os, k.tape, k.output, k.size, fun j hj => k.block j (by omega) (fun e => by have := (h.lt e).1; omega)⟩
theorem wpList_append_os {ops : Array Oper} {rest : List Oper} {o : Oper} {a : Act} {Q : Exit → Act → World → Prop} (w : World) (hg : o.guard = none) (s xo : Operand)
    (hop : o.op = Op.call { callee := Callee.builtin Builtin.append, args := #[s, xo], argTypes := #[35, 35] })
    (B : Nat) (x : Value) (L : List ByteArray) (c : ByteArray) (hs : a.eval s = x) (hO : Osr B x L w) (hB : B ≤ w.heap.size) (b0 : Nat) (hx : a.eval xo = .slice (some ⟨b0, 0, none⟩) 1 1) (hc : w.cell? ⟨b0, 0, none⟩ = some (.string c)) (hL : L.length ≤ 1000000)
    (hK : ∀ x' w', Osr B x' (L ++ [c]) w' → OsK x w w' → (osB x' = osB x ∨ ∃ g, osB x' = some g ∧ w.heap.size ≤ g) → wpList Try.prog ops Q rest (a.put o.dst x') w') : wpList Try.prog ops Q (o :: rest) a w := by
  obtain ⟨i0, hi, hz0, hz1, hz2⟩ := os_parts os_info
  have hnews : ∀ j u, [Value.string c][j]? = some u → w.cell? ((⟨b0, 0, none⟩ : Addr).add j) = some u := by
    intro j u hu
    rcases j with _ | j
    · simp at hu
      subst hu
      rw [show (⟨b0, 0, none⟩ : Addr).add 0 = ⟨b0, 0, none⟩ by simp [Addr.add]]
      exact hc
    · simp at hu
  have hone : ∀ u ∈ [Value.string c], u.oneCell' = true := fun u hu => by simp at hu; subst hu; rfl
  have hsn : svals L ++ [.string c] = svals (L ++ [c]) := by simp [svals]
  have hln : (L ++ [c]).length = L.length + 1 := by simp
  have grow : ∀ v' w', w'.ownsRow w.heap.size 9 1 v' (L.length + 1) (svals L ++ [.string c]) → w.grownBy w' none → wpList Try.prog ops Q rest (a.put o.dst v') w' := by
    intro v' w' ho hgr
    rw [hsn] at ho
    rcases ho.2 with ⟨_, e⟩ | ⟨g, cap, cur, rfl, hb, hgg, hle, hm, hsz, ht⟩
    · omega
    · refine hK _ w' (.inr ⟨g, 0, cap, cur, by rw [hln], Nat.le_trans hB hb, hgg, by rw [hln]; exact hle, by omega, fun i hi => ?_⟩) ⟨hgr.os, hgr.tape, hgr.output, hgr.size, fun k hk _ => hgr.block k hk (by simp)⟩ (.inr ⟨g, rfl, hb⟩)
      have q := svals_at hi
      rw [← ht, List.getElem?_take, if_pos (by rw [hln] at hi; omega)] at q
      rw [Nat.zero_add]
      simpa using q
  rcases hO with ⟨rfl, rfl⟩ | ⟨g, off, cap, cur, rfl, hBg, hgg, hcap, hsz, hxs⟩
  · exact wpList_append_grows w hg s xo 35 hop 9 i0 (.string ⟨#[]⟩) 1 16 Try.underlying35 hi hz0 hz1 hz2 rfl (by decide) none 0 0 [] hs (fun _ => ⟨rfl, rfl⟩) rfl (fun b hb => by cases hb) ⟨b0, 0, none⟩ 1 1 [.string c] hx rfl hnews hone (by decide) (by decide) (by decide) grow
  · have hol : ∀ j u, (svals L)[j]? = some u → w.cell? ⟨g, off + j, none⟩ = some u := by
      intro j u hu
      have hj : j < L.length := by
        obtain ⟨q, _⟩ := List.getElem?_eq_some_iff.1 hu
        simpa [svals] using q
      rw [svals_at hj] at hu
      rw [cell_of_row w g (off + j) cur _ (0, 0) hgg, hxs j hj, hu]
    have hglt : g < w.heap.size := by
      rcases Nat.lt_or_ge g w.heap.size with q | q
      · exact q
      · rw [Array.getElem?_eq_none q] at hgg; cases hgg
    refine wpList_append_arg w hg s xo 35 hop 9 i0 (.string ⟨#[]⟩) 1 16 Try.underlying35 hi hz0 hz1 hz2 rfl (by decide) g off L.length cap (svals L) hs (by simp [svals]) hol ⟨b0, 0, none⟩ 1 1 [.string c] hx rfl hnews hone ?_ (by unfold maxLen; omega) (by omega) ?_ (fun _ => grow)
    · intro hr j hj
      have hj0 : j = 0 := by simp at hj; omega
      subst hj0
      have hlt : off + L.length * 1 + 0 < cur.size := by omega
      refine ⟨?_, ?_⟩
      · rw [cell_of_row w g _ cur _ (0, 0) hgg, Array.getElem?_eq_getElem hlt]
        rfl
      · exact frozen_of_row w g _ cur _ hgg
    · intro hr
      have e1 : w.setCells g (off + L.length * 1) [.string c] = w.setCell ⟨g, off + L.length, none⟩ (.string c) := by rw [Nat.mul_one]; rfl
      rw [e1]
      have hset := heap_setCell_same w g (off + L.length) cur 9 (.string c) hgg
      refine hK _ _ (.inr ⟨g, off, cap, cur.setIfInBounds (off + L.length) (.string c), by rw [hln], hBg, hset, by rw [hln]; exact hr, by simpa using hsz, fun i hi => ?_⟩) ⟨rfl, rfl, rfl, by simp, fun k hk hne => Below.heap_setCell _ _ _ _ (by show k ≠ g; intro e; exact hne (by rw [e]; rfl))⟩ (.inl rfl)
      rw [hln] at hi
      have hlt : off + L.length < cur.size := by omega
      by_cases e : i = L.length
      · subst e
        simp [List.getD, hlt]
      · have hi' : i < L.length := by omega
        rw [Array.getElem?_setIfInBounds_ne (by omega), hxs i hi']
        rw [show (L ++ [c]).getD i ⟨#[]⟩ = L.getD i ⟨#[]⟩ from by simp [List.getD, List.getElem?_append_left hi']]
end Go.Proofs.Ytaijkngdelolgaa
