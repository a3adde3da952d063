/- The append of Og inside a fence, in a round too. -/
import Derived.Test.YtcpmdgbogdikiaaOg
import Derived.OwnWalkIn
import Derived.RangeFuncCalls
namespace Go.Proofs.Ytcpmdgbogdikiaa
open Go.ChangeShapes Go.WideShapes Go.ChangeAt Go.RowKit
set_option linter.unusedVariables false
theorem wpListIn_append_og {F : Fence} {nn : Nat} {ops : Array Oper} {rest : List Oper} {o : Oper} {a : Act} {Q : Exit → Act → World → Prop} (w : World) (hgd : o.guard = none) (s xo : Operand) (t tx : TypeId)
    (hop : o.op = Op.call { callee := Callee.builtin Builtin.append, args := #[s, xo], argTypes := #[t, tx] })
    (e : TypeId) (z : Value) (by' : Nat) (ht : Try.prog.underlying t = some (.slice e)) (hinf : (Try.prog.info? e).map (fun i => (i.zero, i.size, i.bytes)) = some (some z, 1, by')) (hzc : z.cells.size = 1)
    (B : Nat) (x : Value) (V : List Value) (hs : a.eval s = x) (hO : Og e B x V w) (hB : B ≤ w.heap.size) (y : Value) (n : Nat) (C : List Value) (hx : a.eval xo = y) (hsrc : Src Try.prog 1 tx y n C w)
    (b1 : V.length + n ≤ maxLen) (b2 : (V.length + n) * by' ≤ 140737488355328)
    (hK : ∀ x' w', Og e B x' (V ++ C) w' → OgK x w w' → OgN x x' w → wpListIn F nn Try.prog ops Q rest (a.put o.dst x') w') : wpListIn F nn Try.prog ops Q (o :: rest) a w := by
  obtain ⟨i0, hi, hz0, hz1, hz2⟩ := og_parts hinf
  have hnl : C.length = n := by have := hsrc.newsLen; omega
  have hln : (V ++ C).length = V.length + n := by simp [hnl]
  have hsrc' : Src Try.prog i0.size tx y n C w := by rw [hz1]; exact hsrc
  refine wpListIn_plain hgd fun K hK' => ?_
  have fin : ∀ v' w', (Builtin.append_ #[t, tx] o.type #[x, y]).run Try.prog w = .ok v' w' → K (a.put o.dst v') w' → o.wpIn F nn Try.prog a w K Q := by
    intro v' w' hrun hk
    unfold Oper.wpIn
    refine ⟨?_, ?_⟩
    · simp [Oper.about, hop, resolve, Target.leads, Sem.run_pure]
    · rw [Oper.semAt_plain F _ _ (by rw [hop]; intro c hc'; cases hc')]
      simp [execOp, hop, resolve, invoke, builtin, hs, hx, hrun, Result.andThen]
      exact hk
  have grow : ∀ (ao : Option Addr) (m cap : Nat) (olds : List Value), olds.length = m → x = .slice ao m cap → V = olds → (Builtin.firstCells i0.size m (.slice ao m cap)).run Try.prog w.drew = .ok olds.toArray w.drew → cap < m + n → o.wpIn F nn Try.prog a w K Q := by
    intro ao m cap olds hlo hxe hV hold hlt
    subst hlo hV
    have hr := run_append_grow_src (P := Try.prog) w t tx o.type e i0 z ht hi hz0 ao V.length cap V hold y n C hsrc' hlt (by unfold maxLen at b1; omega) (by rw [hz2]; exact growslice_fits hlt b2)
    have hge := grownCap_ge w (V.length + n) cap e
    refine fin _ _ (by rw [hxe]; exact hr) (hK' _ _ (hK _ _ (.inr ⟨w.heap.size, 0, _, _, by rw [hln], hB, heap_alloc_new w.drew _, by rw [hln]; exact hge, ?_, fun i hi => ?_⟩) ⟨rfl, rfl, rfl, by simp, fun k hk _ => heap_alloc_old w.drew _ hk⟩ (.inr ⟨_, rfl, Nat.le_refl _⟩)))
    · simp only [Array.size_append, List.size_toArray, size_zeroCells, hzc, hln]
      omega
    · rw [Nat.zero_add, Array.getElem?_append_left (by simpa using hi)]
      simp
  rcases hO with ⟨rfl, rfl⟩ | ⟨g, off, cap, cur, rfl, hBg, hgg, hcap, hsz, hxs⟩
  · by_cases h0 : n = 0
    · subst h0
      obtain rfl := List.eq_nil_of_length_eq_zero hnl
      exact fin _ w (run_append_nil_src w t tx o.type e i0 ht hi y hsrc') (hK' _ _ (hK _ w (.inl ⟨rfl, rfl⟩) ⟨rfl, rfl, rfl, Nat.le_refl _, fun _ _ _ => rfl⟩ (.inl rfl)))
    · exact grow none 0 0 [] rfl rfl rfl (run_firstCells_none w.drew i0.size 0 0 0) (by omega)
  · have hglt : g < w.heap.size := by
      rcases Nat.lt_or_ge g w.heap.size with q | q
      · exact q
      · rw [Array.getElem?_eq_none q] at hgg; cases hgg
    by_cases hr : V.length + n ≤ cap
    · have hrun := run_append_room_src (P := Try.prog) w t tx o.type e i0 ht hi g off V.length cap y n C hsrc' hr (fun j hj => by
          rw [hz1, Nat.mul_one, cell_of_row w g _ cur _ (0, 0) hgg, Array.getElem?_eq_getElem (by omega)]; rfl) (fun j hj => by rw [hz1, Nat.mul_one]; exact frozen_of_row w g _ cur _ hgg)
      rw [hz1, Nat.mul_one] at hrun
      obtain ⟨cur', h1, h2, h3, h4⟩ := ogset_at g e C (off + V.length) w cur hgg (by omega)
      obtain ⟨s1, s2, s3, s4⟩ := ogset_st g C (off + V.length) w
      refine fin _ _ hrun (hK' _ _ (hK _ _ (.inr ⟨g, off, cap, cur', by rw [hln], hBg, h1, by omega, by omega, fun i hi => ?_⟩) ⟨s2, s3, s4, Nat.le_of_eq s1.symm, fun k hk hne => ogset_ne g C _ w (fun e => hne (by rw [e]; rfl))⟩ (.inl rfl)))
      by_cases hlt : i < V.length
      · rw [h4 _ (by omega), hxs i hlt, List.getElem?_append_left hlt]
      · rw [show off + i = off + V.length + (i - V.length) by omega, h3 _ (by omega), List.getElem?_append_right (by omega)]
    · refine grow (some ⟨g, off, none⟩) V.length cap V rfl rfl rfl ?_ (by omega)
      refine run_firstCells_some w.drew i0.size V.length ⟨g, off, none⟩ V.length cap V (by rw [hz1, Nat.mul_one]) (fun j u hu => ?_)
      have hj : j < V.length := (List.getElem?_eq_some_iff.1 hu).1
      rw [Addr.add_lit, World.cell?_drew, cell_of_row w g (off + j) cur _ (0, 0) hgg, hxs j hj, hu]
end Go.Proofs.Ytcpmdgbogdikiaa
