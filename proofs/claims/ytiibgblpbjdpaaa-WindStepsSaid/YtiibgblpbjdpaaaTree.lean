/- A region that draws its order, walked along a tree of moves: as XReg, and where two operations may come up it forks. -/
import Derived.Test.YtiibgblpbjdpaaaReg
namespace Go.Proofs.Ytiibgblpbjdpaaa
open Go.ChangeShapes Go.WideShapes Go.ChangeAt Go.RowKit
set_option linter.unusedVariables false

section
variable {P : Program} {ops : Array Oper} {Q : Exit → Act → World → Prop} {md : Region.Mode}

inductive MT where
  | fin
  | free (i : Nat) (t : MT)
  | take (i : Nat) (t : MT)
  | step (i : Nat) (t : MT)
  | late (i : Nat) (t : MT)
  | fork (i : Nat) (s : MT) (j : Nat) (t : MT)

def MT.len : MT → Nat
  | .fin => 0
  | .free _ t | .take _ t | .step _ t | .late _ t => t.len + 1
  | .fork _ s _ t => max s.len t.len + 1

/-- One operation comes up alone, and then R. -/
def upOp (P : Program) (ops : Array Oper) (Q : Exit → Act → World → Prop) (o : Oper) (S : World → Prop) (R : (World → Prop) → Act → World → Prop) (a : Act) (w : World) : Prop :=
  ∀ K : Act → World → Prop, Shut (∀ (S' : World → Prop) a' w', (∀ u, S' u → S u) → S' w' → R S' a' w' → K a' w') →
      if Region.wanted o (yielded ops a.tmps) = true then Oper.wp P o a w K Q else K (a.put o.dst undef) w

/-- Along the tree. -/
def wpTree (P : Program) (ops : Array Oper) (Q : Exit → Act → World → Prop) : MT → (World → Prop) → Act → World → Prop
  | .fin, _, a, w => Q .normal a w
  | .free i t, S, a, w => ∃ o v, ops[i]? = some o ∧ Yields P ops o v a ∧ S w ∧ wpTree P ops Q t S (a.put o.dst v) w
  | .take i t, S, a, w => ∃ o v, ops[i]? = some o ∧ YieldsIf P ops S o v a ∧ S w ∧ wpTree P ops Q t S (a.put o.dst v) w
  | .step i t, S, a, w => ∃ o, ops[i]? = some o ∧ upOp P ops Q o S (wpTree P ops Q t) a w
  | .late i t, S, a, w => ∃ o, ops[i]? = some o ∧ ∀ K : Act → World → Prop, Shut (∀ (S' : World → Prop) a' w', wpTree P ops Q t S' a' w' → K a' w') →
      if Region.wanted o (yielded ops a.tmps) = true then Oper.wp P o a w K Q else K (a.put o.dst undef) w
  | .fork i s j t, S, a, w => (∃ o, ops[i]? = some o ∧ upOp P ops Q o S (wpTree P ops Q s) a w) ∧ ∃ o, ops[j]? = some o ∧ upOp P ops Q o S (wpTree P ops Q t) a w

/-- The tree is such as the region allows. -/
def mayTree (md : Region.Mode) (ops : Array Oper) : List (Nat × List (Nat × Nat)) → Array Bool → MT → Bool
  | _, listed, .fin => Region.ready md ops listed == []
  | ps, listed, .free i t => decide (i < ops.size) && Region.free md ops listed i && (Region.ready md ops listed).contains i && decide (i ≠ lateOf ops.size ps) && mayTree md ops ps (listed.setIfInBounds i true) t
  | ps, listed, .take i t => decide (i < ops.size) && Region.free md ops listed i && (Region.ready md ops listed).contains i && (match ps with | [] => true | p :: _ => (p.2.map Prod.fst).contains i && decide (i ≠ p.1)) && mayTree md ops ps (listed.setIfInBounds i true) t
  | ps, listed, .step i t => decide (i < ops.size) && Region.ready md ops listed == [i] && decide (i ≠ lateOf ops.size ps) && mayTree md ops ps (listed.setIfInBounds i true) t
  | ps, listed, .late i t => decide (i < ops.size) && Region.ready md ops listed == [i] && decide (i = lateOf ops.size ps) && mayTree md ops ps.tail (listed.setIfInBounds i true) t
  | ps, listed, .fork i s j t => decide (i < ops.size) && decide (j < ops.size) && Region.ready md ops listed == [i, j] && decide (i ≠ lateOf ops.size ps) && decide (j ≠ lateOf ops.size ps) && mayTree md ops ps (listed.setIfInBounds i true) s && mayTree md ops ps (listed.setIfInBounds j true) t

theorem tree_sound (hs : Region.noSelect ops = true) (hQ : ∀ c a d v w, Q (.panic c) (Act.put a (some d) v) w → Q (.panic c) a w) :
    ∀ (t : MT) (S : World → Prop) (ps : List (Nat × List (Nat × Nat))) (listed : Array Bool) (a : Act) (w : World) (fuel : Nat), (ps.all fun p => chkUp md ops [p.1] p.2) = true → Closed md ops listed →
      mayTree md ops ps listed t = true → t.len ≤ fuel →
      wpTree P ops Q t S a w → wpAnyE P md ops Q S (lateOf ops.size ps) fuel listed a w
  | .fin, S, ps, listed, a, w, fuel, hu, hc, hm, _, h => by
    have hr : Region.ready md ops listed = [] := by simpa [mayTree] using hm
    have h' : Q .normal a w := h
    cases fuel with
    | zero => exact ⟨hr, h'⟩
    | succ n => exact ⟨fun _ => h', by rw [hr]; simp⟩
  | .free i t, S, ps, listed, a, w, 0, hu, hc, hm, hl, h => by simp [MT.len] at hl
  | .take i t, S, ps, listed, a, w, 0, hu, hc, hm, hl, h => by simp [MT.len] at hl
  | .step i t, S, ps, listed, a, w, 0, hu, hc, hm, hl, h => by simp [MT.len] at hl
  | .late i t, S, ps, listed, a, w, 0, hu, hc, hm, hl, h => by simp [MT.len] at hl
  | .fork i s j t, S, ps, listed, a, w, 0, hu, hc, hm, hl, h => by simp [MT.len] at hl
  | .free i t, S, ps, listed, a, w, fuel + 1, hu, hc, hm, hl, h => by
    simp only [mayTree, Bool.and_eq_true, decide_eq_true_eq, List.contains_iff_mem] at hm
    obtain ⟨⟨⟨⟨hi, hf⟩, hr⟩, hne⟩, hm⟩ := hm
    obtain ⟨o, v, hi', hy, hS, h⟩ := h
    have hQ' : ∀ c a w, Q (.panic c) (a.put o.dst v) w → Q (.panic c) a w := fun c a w h => by
      cases hd : o.dst with
      | none => rw [hd] at h; exact h
      | some d => rw [hd] at h; exact hQ c a _ _ w h
    exact E_free hi' (Region.noSelect_spec hs) hQ' hne fuel listed a w (Region.free_spec hi' hf) hr hy hS (tree_sound hs hQ t S ps _ _ _ fuel hu (hc.set hr) hm (by simpa [MT.len] using hl) h)
  | .take i t, S, ps, listed, a, w, fuel + 1, hu, hc, hm, hl, h => by
    simp only [mayTree, Bool.and_eq_true, decide_eq_true_eq, List.contains_iff_mem] at hm
    obtain ⟨⟨⟨⟨hi, hf⟩, hr⟩, hla⟩, hm⟩ := hm
    obtain ⟨o, v, hi', hy, hS, h⟩ := h
    have hQ' : ∀ c a w, Q (.panic c) (a.put o.dst v) w → Q (.panic c) a w := fun c a w h => by
      cases hd : o.dst with
      | none => rw [hd] at h; exact h
      | some d => rw [hd] at h; exact hQ c a _ _ w h
    have hll : (ops.size ≤ lateOf ops.size ps ∨ ∃ ws, chkUp md ops [lateOf ops.size ps] ws = true ∧ i ∈ ws.map Prod.fst) ∧ i ≠ lateOf ops.size ps := by
      cases ps with
      | nil => exact ⟨.inl (Nat.le_refl _), Nat.ne_of_lt hi⟩
      | cons p ps =>
        simp only [Bool.and_eq_true, List.contains_iff_mem, decide_eq_true_eq] at hla
        simp only [List.all_cons, Bool.and_eq_true] at hu
        exact ⟨.inr ⟨p.2, hu.1, hla.1⟩, hla.2⟩
    exact E_first hi' (Region.noSelect_spec hs) hQ' hll.1 hll.2 fuel listed a w hc (Region.free_spec hi' hf) hr hy hS (tree_sound hs hQ t S ps _ _ _ fuel hu (hc.set hr) hm (by simpa [MT.len] using hl) h)
  | .step i t, S, ps, listed, a, w, fuel + 1, hu, hc, hm, hl, h => by
    simp only [mayTree, Bool.and_eq_true, decide_eq_true_eq, beq_iff_eq] at hm
    obtain ⟨⟨⟨hi, hr⟩, hne⟩, hm⟩ := hm
    obtain ⟨o, hi', h⟩ := h
    refine ⟨fun h0 => absurd (hr ▸ h0) (by simp), fun j hj => ?_⟩
    have hjr := hj
    rw [hr] at hj
    simp only [List.mem_cons, List.not_mem_nil, or_false] at hj
    subst hj
    exact wpOp_step hi' fun K hK => h K fun S' a' w' hSS hS' hh => hK a' w' (by rw [if_neg hne]; exact ⟨hSS _ hS', E_mono hSS _ _ _ _ (tree_sound hs hQ t S' ps _ _ _ fuel hu (hc.set hjr) hm (by simpa [MT.len] using hl) hh)⟩)
  | .fork i s k t, S, ps, listed, a, w, fuel + 1, hu, hc, hm, hl, h => by
    simp only [mayTree, Bool.and_eq_true, decide_eq_true_eq, beq_iff_eq] at hm
    obtain ⟨⟨⟨⟨⟨⟨hi, hk⟩, hr⟩, hne⟩, hnk⟩, hm⟩, hm2⟩ := hm
    obtain ⟨⟨o, hi', h⟩, o2, hk', h2⟩ := h
    have hl' : max s.len t.len + 1 ≤ fuel + 1 := hl
    refine ⟨fun h0 => absurd (hr ▸ h0) (by simp), fun j hj => ?_⟩
    have hjr := hj
    rw [hr] at hj
    simp only [List.mem_cons, List.not_mem_nil, or_false] at hj
    rcases hj with hj | hj
    · subst hj
      exact wpOp_step hi' fun K hK => h K fun S' a' w' hSS hS' hh => hK a' w' (by rw [if_neg hne]; exact ⟨hSS _ hS', E_mono hSS _ _ _ _ (tree_sound hs hQ s S' ps _ _ _ fuel hu (hc.set hjr) hm (by omega) hh)⟩)
    · subst hj
      exact wpOp_step hk' fun K hK => h2 K fun S' a' w' hSS hS' hh => hK a' w' (by rw [if_neg hnk]; exact ⟨hSS _ hS', E_mono hSS _ _ _ _ (tree_sound hs hQ t S' ps _ _ _ fuel hu (hc.set hjr) hm2 (by omega) hh)⟩)
  | .late i t, S, ps, listed, a, w, fuel + 1, hu, hc, hm, hl, h => by
    simp only [mayTree, Bool.and_eq_true, decide_eq_true_eq, beq_iff_eq] at hm
    obtain ⟨⟨⟨hi, hr⟩, hne⟩, hm⟩ := hm
    obtain ⟨o, hi', h⟩ := h
    refine ⟨fun h0 => absurd (hr ▸ h0) (by simp), fun j hj => ?_⟩
    have hjr := hj
    rw [hr] at hj
    simp only [List.mem_cons, List.not_mem_nil, or_false] at hj
    subst hj
    have hu' : (ps.tail.all fun p => chkUp md ops [p.1] p.2) = true := by
      cases ps with
      | nil => rfl
      | cons p ps => simp only [List.all_cons, Bool.and_eq_true] at hu; exact hu.2
    exact wpOp_step hi' fun K hK => h K fun S' a' w' hh => hK a' w' (by rw [if_pos hne]; exact any_of_E _ _ _ _ (tree_sound hs hQ t S' ps.tail _ _ _ fuel hu' (hc.set hjr) hm (by simpa [MT.len] using hl) hh))

/-- A region that draws its order, along a tree. -/
theorem region_tree {id : Nat} {a : Act} {w : World} (S : World → Prop) (ps : List (Nat × List (Nat × Nat))) (t : MT) (hm : P.follows .mixedOrders = true) (hs : Region.noSelect ops = true)
    (hu : (ps.all fun p => chkUp .any ops [p.1] p.2) = true) (hmv : mayTree .any ops ps (Array.replicate ops.size false) t = true) (hl : t.len ≤ ops.size)
    (hQ : ∀ c a d v w, Q (.panic c) (Act.put a (some d) v) w → Q (.panic c) a w)
    (h : wpTree P ops Q t S a w.drew) : (Code.region id ops true).wp P Q a w :=
  wp_region_any hm (any_of_E _ _ _ _ (tree_sound hs hQ t S ps _ a _ _ hu (closed_none _) hmv hl h))

theorem mt_free {i : Nat} {t : MT} {S : World → Prop} {a : Act} {w : World} (o : Oper) (ho : ops[i]? = some o) (v : Value) (hy : Yields P ops o v a) (hS : S w) (h : wpTree P ops Q t S (a.put o.dst v) w) : wpTree P ops Q (.free i t) S a w := ⟨o, v, ho, hy, hS, h⟩
theorem mt_take {i : Nat} {t : MT} {S : World → Prop} {a : Act} {w : World} (o : Oper) (ho : ops[i]? = some o) (v : Value) (hy : YieldsIf P ops S o v a) (hS : S w) (h : wpTree P ops Q t S (a.put o.dst v) w) : wpTree P ops Q (.take i t) S a w := ⟨o, v, ho, hy, hS, h⟩
theorem mt_step {i : Nat} {t : MT} {S : World → Prop} {a : Act} {w : World} (o : Oper) (ho : ops[i]? = some o) (h : upOp P ops Q o S (wpTree P ops Q t) a w) : wpTree P ops Q (.step i t) S a w := ⟨o, ho, h⟩
theorem mt_late {i : Nat} {t : MT} {S : World → Prop} {a : Act} {w : World} (o : Oper) (ho : ops[i]? = some o) (h : ∀ K : Act → World → Prop, Shut (∀ (S' : World → Prop) a' w', wpTree P ops Q t S' a' w' → K a' w') →
      if Region.wanted o (yielded ops a.tmps) = true then Oper.wp P o a w K Q else K (a.put o.dst undef) w) : wpTree P ops Q (.late i t) S a w := ⟨o, ho, h⟩
theorem mt_fork {i j : Nat} {s t : MT} {S : World → Prop} {a : Act} {w : World} (o o2 : Oper) (ho : ops[i]? = some o) (ho2 : ops[j]? = some o2) (h : upOp P ops Q o S (wpTree P ops Q s) a w) (h2 : upOp P ops Q o2 S (wpTree P ops Q t) a w) : wpTree P ops Q (.fork i s j t) S a w := ⟨⟨o, ho, h⟩, o2, ho2, h2⟩
theorem mt_fin {S : World → Prop} {a : Act} {w : World} (h : Q .normal a w) : wpTree P ops Q .fin S a w := h
end
end Go.Proofs.Ytiibgblpbjdpaaa
