/- A region that draws its order, walked along one list of moves: an operation is taken first (it yields its value in every world that meets S), it comes up alone, or it comes up alone and behind all that was taken (then S ends there, and another one begins). -/
import Derived.Test.YtfejdbmamaggpaaDoorBase
namespace Go.Proofs.YtfejdbmamaggpaaDoor
open Go.ChangeShapes Go.WideShapes Go.ChangeAt Go.RowKit
set_option linter.unusedVariables false

section
variable {P : Program} {ops : Array Oper} {Q : Exit → Act → World → Prop} {md : Region.Mode}

/-- Whatever order is picked from here on, and S holds behind every operation till number 'late' has come up. -/
def wpAnyE (P : Program) (md : Region.Mode) (ops : Array Oper) (Q : Exit → Act → World → Prop) (S : World → Prop) (late : Nat) : Nat → Array Bool → Act → World → Prop
  | 0, listed, a, w => Region.ready md ops listed = [] ∧ Q .normal a w
  | fuel + 1, listed, a, w =>
    (Region.ready md ops listed = [] → Q .normal a w) ∧
    ∀ i ∈ Region.ready md ops listed, wpOp P ops Q i (fun a' w' => if i = late then wpAny P md ops Q fuel (listed.setIfInBounds i true) a' w' else S w' ∧ wpAnyE P md ops Q S late fuel (listed.setIfInBounds i true) a' w') a w

theorem any_of_E {S : World → Prop} {late : Nat} : ∀ (fuel : Nat) (listed : Array Bool) (a : Act) (w : World), wpAnyE P md ops Q S late fuel listed a w → wpAny P md ops Q fuel listed a w
  | 0, _, _, _, h => h
  | fuel + 1, _, _, _, h => ⟨h.1, fun i hi => wpOp_mono (fun a' w' h' => by
      by_cases e : i = late
      · rw [if_pos e] at h'; exact h'
      · rw [if_neg e] at h'; exact any_of_E fuel _ a' w' h'.2) (h.2 i hi)⟩

theorem E_mono {S S' : World → Prop} {late : Nat} (h : ∀ w, S' w → S w) : ∀ (fuel : Nat) (listed : Array Bool) (a : Act) (w : World), wpAnyE P md ops Q S' late fuel listed a w → wpAnyE P md ops Q S late fuel listed a w
  | 0, _, _, _, hh => hh
  | fuel + 1, _, _, _, hh => ⟨hh.1, fun i hi => wpOp_mono (fun a' w' h' => by
      by_cases e : i = late
      · rw [if_pos e] at h' ⊢; exact h'
      · rw [if_neg e] at h' ⊢; exact ⟨h _ h'.1, E_mono h _ _ _ _ h'.2⟩) (hh.2 i hi)⟩

/-- What an operation waits for. -/
def depsOf (md : Region.Mode) (ops : Array Oper) (k : Nat) : List Nat := ((ops[k]?).map fun o => (o.after.toList.filter (Region.binds md)).map (·.on)).getD []
/-- .. and what those wait for: each with one of those ahead that waits for it. -/
def chkUp (md : Region.Mode) (ops : Array Oper) : List Nat → List (Nat × Nat) → Bool
  | _, [] => true
  | acc, (x, y) :: ws => acc.contains y && (depsOf md ops y).contains x && chkUp md ops (x :: acc) ws

def Closed (md : Region.Mode) (ops : Array Oper) (listed : Array Bool) : Prop := ∀ k, listed.getD k false = true → ∀ x ∈ depsOf md ops k, listed.getD x false = true

theorem mem_deps {k : Nat} {o : Oper} (ho : ops[k]? = some o) {x : Nat} (hx : x ∈ depsOf md ops k) : ∃ e ∈ o.after, Region.binds md e = true ∧ e.on = x := by
  simp only [depsOf, ho, Option.map_some, Option.getD_some, List.mem_map, List.mem_filter, Array.mem_toList_iff] at hx
  obtain ⟨e, ⟨h1, h2⟩, h3⟩ := hx
  exact ⟨e, h1, h2, h3⟩

theorem ready_deps {listed : Array Bool} {j : Nat} (hj : j ∈ Region.ready md ops listed) : ∀ x ∈ depsOf md ops j, listed.getD x false = true := fun x hx => by
  obtain ⟨_, o, ho, hall⟩ := mem_ready.1 hj
  obtain ⟨e, h1, h2, h3⟩ := mem_deps ho hx
  rw [← h3]; exact hall e h1 h2

theorem up_listed {listed : Array Bool} (hc : Closed md ops listed) {late : Nat} (hl : late ∈ Region.ready md ops listed) : ∀ (ws : List (Nat × Nat)) (acc : List Nat), chkUp md ops acc ws = true → (∀ y ∈ acc, y = late ∨ listed.getD y false = true) → ∀ p ∈ ws, listed.getD p.1 false = true
  | [], _, _, _, p, hp => by cases hp
  | (x, y) :: ws, acc, h, ha, p, hp => by
    simp only [chkUp, Bool.and_eq_true, List.contains_iff_mem] at h
    obtain ⟨⟨h1, h2⟩, h3⟩ := h
    have hx : listed.getD x false = true := by
      rcases ha y h1 with e | e
      · subst e; exact ready_deps hl x h2
      · exact hc y e x h2
    rcases List.mem_cons.1 hp with e | e
    · subst e; exact hx
    · exact up_listed hc hl ws (x :: acc) h3 (fun z hz => by
        rcases List.mem_cons.1 hz with e | e
        · subst e; exact .inr hx
        · exact ha z e) p e

theorem Closed.set {listed : Array Bool} (hc : Closed md ops listed) {i : Nat} (hi : i ∈ Region.ready md ops listed) : Closed md ops (listed.setIfInBounds i true) := fun k hk x hx => by
  by_cases e : i = k
  · subst e; exact getD_set_true (ready_deps hi x hx)
  · rw [getD_set_ne false e] at hk; exact getD_set_true (hc k hk x hx)

theorem closed_none (n : Nat) : Closed md ops (Array.replicate n false) := fun k hk => by
  rcases Nat.lt_or_ge k n with h | h
  · simp [h] at hk
  · simp [h] at hk

theorem E_first {S : World → Prop} {late : Nat} {i : Nat} {oi : Oper} {v : Value} (hi : ops[i]? = some oi) (hsel : ∀ (j : Nat) (o : Oper) cs b, ops[j]? = some o → o.op ≠ .select cs b)
    (hQ : ∀ c a w, Q (.panic c) (a.put oi.dst v) w → Q (.panic c) a w) (hl : ops.size ≤ late ∨ ∃ ws, chkUp md ops [late] ws = true ∧ i ∈ ws.map Prod.fst) (hne : i ≠ late) :
    ∀ (fuel : Nat) (listed : Array Bool) (a : Act) (w : World), Closed md ops listed →
      (∀ j oj, ops[j]? = some oj → j ≠ i → listed.getD j true = false → (∀ e ∈ oj.after, Region.binds md e = true → e.on ≠ i) → oi.apart ops oj = true) →
      i ∈ Region.ready md ops listed → YieldsIf P ops S oi v a → S w →
      wpAnyE P md ops Q S late fuel (listed.setIfInBounds i true) (a.put oi.dst v) w → wpAnyE P md ops Q S late (fuel + 1) listed a w := by
  intro fuel
  induction fuel with
  | zero =>
    intro listed a w _ _ hr hy hS H
    refine ⟨fun h => (by rw [h] at hr; cases hr), fun j hj => ?_⟩
    by_cases hji : j = i
    · subst hji; exact hy.wpOp hi hS (by rw [if_neg hne]; exact ⟨hS, H⟩)
    · have := ready_mono hj hji
      rw [H.1] at this
      cases this
  | succ fuel ih =>
    intro listed a w hc hfree hr hy hS H
    refine ⟨fun h => (by rw [h] at hr; cases hr), fun j hj => ?_⟩
    by_cases hji : j = i
    · subst hji; exact hy.wpOp hi hS (by rw [if_neg hne]; exact ⟨hS, H⟩)
    · have hjl : j ≠ late := fun e => by
        subst e
        rcases hl with hl | hl
        · obtain ⟨_, oj, hoj, _⟩ := mem_ready.1 hj
          have := (Array.getElem?_eq_some_iff.1 hoj).1
          omega
        · obtain ⟨ws, hw, hi'⟩ := hl
          obtain ⟨p, hp, e⟩ := List.mem_map.1 hi'
          have h1 := up_listed hc hj ws [j] hw (fun y hy => .inl (by simpa using hy)) p hp
          rw [e] at h1
          have h0 := (mem_ready.1 hr).1
          rcases Nat.lt_or_ge i listed.size with h' | h'
          · simp [h'] at h0 h1; rw [h0] at h1; cases h1
          · simp [Array.getElem?_eq_none h'] at h1
      have h1 := H.2 j (ready_mono hj hji)
      rw [show (fun a' w' => if j = late then wpAny P md ops Q fuel ((listed.setIfInBounds i true).setIfInBounds j true) a' w' else S w' ∧ wpAnyE P md ops Q S late fuel ((listed.setIfInBounds i true).setIfInBounds j true) a' w') = (fun a' w' => S w' ∧ wpAnyE P md ops Q S late fuel ((listed.setIfInBounds i true).setIfInBounds j true) a' w') from by funext a' w'; rw [if_neg hjl]] at h1
      obtain ⟨hjun, oj, hoj, hall⟩ := mem_ready.1 hj
      have hnot : ∀ e ∈ oj.after, Region.binds md e = true → e.on ≠ i := fun e he hb heq => by
        have h1 := hall e he hb
        have h0 := (mem_ready.1 hr).1
        rw [heq] at h1
        rcases Nat.lt_or_ge i listed.size with h' | h'
        · simp [h'] at h0 h1; rw [h0] at h1; cases h1
        · simp [Array.getElem?_eq_none h'] at h1
      have h2 := wpOp_putIf hoj (hfree j oj hoj hji hjun hnot) (fun cs b => hsel i oi cs b hi) (fun cs b => hsel j oj cs b hoj) hQ hy h1
      have hfree' : ∀ k ok, ops[k]? = some ok → k ≠ i → (listed.setIfInBounds j true).getD k true = false →
          (∀ e ∈ ok.after, Region.binds md e = true → e.on ≠ i) → oi.apart ops ok = true := fun k ok hk hki hun hno => by
        refine hfree k ok hk hki ?_ hno
        by_cases hjk : j = k
        · subst hjk; exact hjun
        · rw [getD_set_ne true hjk] at hun; exact hun
      refine wpOp_mono (fun a' w' h3 => by rw [if_neg hjl]; exact ⟨h3.2.1, ih (listed.setIfInBounds j true) a' w' (hc.set hj) hfree' (ready_mono hr (Ne.symm hji)) h3.1 h3.2.1 (by rw [Array.setIfInBounds_comm _ _ hji]; exact h3.2.2)⟩) h2

theorem E_free {S : World → Prop} {late : Nat} {i : Nat} {oi : Oper} {v : Value} (hi : ops[i]? = some oi) (hsel : ∀ (j : Nat) (o : Oper) cs b, ops[j]? = some o → o.op ≠ .select cs b)
    (hQ : ∀ c a w, Q (.panic c) (a.put oi.dst v) w → Q (.panic c) a w) (hne : i ≠ late) :
    ∀ (fuel : Nat) (listed : Array Bool) (a : Act) (w : World),
      (∀ j oj, ops[j]? = some oj → j ≠ i → listed.getD j true = false → (∀ e ∈ oj.after, Region.binds md e = true → e.on ≠ i) → oi.apart ops oj = true) →
      i ∈ Region.ready md ops listed → Yields P ops oi v a → S w →
      wpAnyE P md ops Q S late fuel (listed.setIfInBounds i true) (a.put oi.dst v) w → wpAnyE P md ops Q S late (fuel + 1) listed a w := by
  intro fuel
  induction fuel with
  | zero =>
    intro listed a w _ hr hy hS H
    refine ⟨fun h => (by rw [h] at hr; cases hr), fun j hj => ?_⟩
    by_cases hji : j = i
    · subst hji; exact hy.wpOp hi (by rw [if_neg hne]; exact ⟨hS, H⟩)
    · have := ready_mono hj hji
      rw [H.1] at this
      cases this
  | succ fuel ih =>
    intro listed a w hfree hr hy hS H
    refine ⟨fun h => (by rw [h] at hr; cases hr), fun j hj => ?_⟩
    by_cases hji : j = i
    · subst hji; exact hy.wpOp hi (by rw [if_neg hne]; exact ⟨hS, H⟩)
    · have h1 := H.2 j (ready_mono hj hji)
      obtain ⟨hjun, oj, hoj, hall⟩ := mem_ready.1 hj
      have hnot : ∀ e ∈ oj.after, Region.binds md e = true → e.on ≠ i := fun e he hb heq => by
        have h1 := hall e he hb
        have h0 := (mem_ready.1 hr).1
        rw [heq] at h1
        rcases Nat.lt_or_ge i listed.size with h' | h'
        · simp [h'] at h0 h1; rw [h0] at h1; cases h1
        · simp [Array.getElem?_eq_none h'] at h1
      have h2 := wpOp_put hoj (hfree j oj hoj hji hjun hnot) (fun cs b => hsel i oi cs b hi) (fun cs b => hsel j oj cs b hoj) hQ hy h1
      have hfree' : ∀ k ok, ops[k]? = some ok → k ≠ i → (listed.setIfInBounds j true).getD k true = false →
          (∀ e ∈ ok.after, Region.binds md e = true → e.on ≠ i) → oi.apart ops ok = true := fun k ok hk hki hun hno => by
        refine hfree k ok hk hki ?_ hno
        by_cases hjk : j = k
        · subst hjk; exact hjun
        · rw [getD_set_ne true hjk] at hun; exact hun
      refine wpOp_mono (fun a' w' h3 => ?_) h2
      obtain ⟨hy', h3⟩ := h3
      by_cases hjl : j = late
      · rw [if_pos hjl] at h3 ⊢
        exact wpAny_first hi hsel hQ fuel (listed.setIfInBounds j true) a' w' hfree' (ready_mono hr (Ne.symm hji)) hy' (by rw [Array.setIfInBounds_comm _ _ hji]; exact h3)
      · rw [if_neg hjl] at h3 ⊢
        exact ⟨h3.1, ih (listed.setIfInBounds j true) a' w' hfree' (ready_mono hr (Ne.symm hji)) hy' h3.1 (by rw [Array.setIfInBounds_comm _ _ hji]; exact h3.2)⟩

inductive Mv where
  | free
  | take
  | step
  | late
  deriving DecidableEq

/-- Along the moves. -/
def wpMoves (P : Program) (ops : Array Oper) (Q : Exit → Act → World → Prop) : List (Mv × Oper) → (World → Prop) → Act → World → Prop
  | [], _, a, w => Q .normal a w
  | (.free, o) :: ms, S, a, w => ∃ v, Yields P ops o v a ∧ S w ∧ wpMoves P ops Q ms S (a.put o.dst v) w
  | (.take, o) :: ms, S, a, w => ∃ v, YieldsIf P ops S o v a ∧ S w ∧ wpMoves P ops Q ms S (a.put o.dst v) w
  | (.step, o) :: ms, S, a, w => ∀ K : Act → World → Prop, (∀ (S' : World → Prop) a' w', (∀ u, S' u → S u) → S' w' → wpMoves P ops Q ms S' a' w' → K a' w') →
      if Region.wanted o (yielded ops a.tmps) = true then Oper.wp P o a w K Q else K (a.put o.dst undef) w
  | (.late, o) :: ms, S, a, w => ∀ K : Act → World → Prop, (∀ (S' : World → Prop) a' w', wpMoves P ops Q ms S' a' w' → K a' w') →
      if Region.wanted o (yielded ops a.tmps) = true then Oper.wp P o a w K Q else K (a.put o.dst undef) w

/-- A phase: its late operation, and what that waits for. -/
def lateOf (n : Nat) : List (Nat × List (Nat × Nat)) → Nat
  | [] => n
  | p :: _ => p.1

/-- The moves are such as the region allows. -/
def mayMove (md : Region.Mode) (ops : Array Oper) : List (Nat × List (Nat × Nat)) → Array Bool → List (Mv × Nat) → Bool
  | _, listed, [] => Region.ready md ops listed == []
  | ps, listed, (.free, i) :: ms => decide (i < ops.size) && Region.free md ops listed i && (Region.ready md ops listed).contains i && decide (i ≠ lateOf ops.size ps) && mayMove md ops ps (listed.setIfInBounds i true) ms
  | ps, listed, (.take, i) :: ms => decide (i < ops.size) && Region.free md ops listed i && (Region.ready md ops listed).contains i && (match ps with | [] => true | p :: _ => (p.2.map Prod.fst).contains i && decide (i ≠ p.1)) && mayMove md ops ps (listed.setIfInBounds i true) ms
  | ps, listed, (.step, i) :: ms => decide (i < ops.size) && Region.ready md ops listed == [i] && decide (i ≠ lateOf ops.size ps) && mayMove md ops ps (listed.setIfInBounds i true) ms
  | ps, listed, (.late, i) :: ms => decide (i < ops.size) && Region.ready md ops listed == [i] && decide (i = lateOf ops.size ps) && mayMove md ops ps.tail (listed.setIfInBounds i true) ms

theorem moves_sound (hs : Region.noSelect ops = true) (hQ : ∀ c a d v w, Q (.panic c) (Act.put a (some d) v) w → Q (.panic c) a w) :
    ∀ (ms : List (Mv × Nat)) (os : List (Mv × Oper)) (S : World → Prop) (ps : List (Nat × List (Nat × Nat))) (listed : Array Bool) (a : Act) (w : World) (fuel : Nat), (ps.all fun p => chkUp md ops [p.1] p.2) = true → Closed md ops listed →
      mayMove md ops ps listed ms = true → ms.length ≤ fuel →
      os = ms.filterMap (fun m => (ops[m.2]?).map fun o => (m.1, o)) →
      wpMoves P ops Q os S a w → wpAnyE P md ops Q S (lateOf ops.size ps) fuel listed a w
  | [], os, S, ps, listed, a, w, fuel, hu, hc, hm, _, ho, h => by
    subst ho
    have hr : Region.ready md ops listed = [] := by simpa [mayMove] using hm
    have h' : Q .normal a w := h
    cases fuel with
    | zero => exact ⟨hr, h'⟩
    | succ n => exact ⟨fun _ => h', by rw [hr]; simp⟩
  | m :: ms, os, S, ps, listed, a, w, 0, hu, hc, hm, hl, ho, h => by simp at hl
  | (.free, i) :: ms, os, S, ps, listed, a, w, fuel + 1, hu, hc, hm, hl, ho, h => by
    simp only [mayMove, Bool.and_eq_true, decide_eq_true_eq, List.contains_iff_mem] at hm
    obtain ⟨⟨⟨⟨hi, hf⟩, hr⟩, hne⟩, hm⟩ := hm
    have hi' : ops[i]? = some ops[i] := Array.getElem?_eq_getElem hi
    rw [List.filterMap_cons] at ho
    simp only [hi', Option.map_some] at ho
    subst ho
    obtain ⟨v, hy, hS, h⟩ := h
    have hQ' : ∀ c a w, Q (.panic c) (a.put ops[i].dst v) w → Q (.panic c) a w := fun c a w h => by
      cases hd : ops[i].dst with
      | none => rw [hd] at h; exact h
      | some d => rw [hd] at h; exact hQ c a _ _ w h
    exact E_free hi' (Region.noSelect_spec hs) hQ' hne fuel listed a w (Region.free_spec hi' hf) hr hy hS (moves_sound hs hQ ms _ S ps _ _ _ fuel hu (hc.set hr) hm (by simpa using hl) rfl h)
  | (.take, i) :: ms, os, S, ps, listed, a, w, fuel + 1, hu, hc, hm, hl, ho, h => by
    simp only [mayMove, Bool.and_eq_true, decide_eq_true_eq, List.contains_iff_mem] at hm
    obtain ⟨⟨⟨⟨hi, hf⟩, hr⟩, hla⟩, hm⟩ := hm
    have hi' : ops[i]? = some ops[i] := Array.getElem?_eq_getElem hi
    rw [List.filterMap_cons] at ho
    simp only [hi', Option.map_some] at ho
    subst ho
    obtain ⟨v, hy, hS, h⟩ := h
    have hQ' : ∀ c a w, Q (.panic c) (a.put ops[i].dst v) w → Q (.panic c) a w := fun c a w h => by
      cases hd : ops[i].dst with
      | none => rw [hd] at h; exact h
      | some d => rw [hd] at h; exact hQ c a _ _ w h
    have hll : (ops.size ≤ lateOf ops.size ps ∨ ∃ ws, chkUp md ops [lateOf ops.size ps] ws = true ∧ i ∈ ws.map Prod.fst) ∧ i ≠ lateOf ops.size ps := by
      cases ps with
      | nil => exact ⟨.inl (Nat.le_refl _), Nat.ne_of_lt hi⟩
      | cons p ps =>
        simp only [Bool.and_eq_true, List.contains_iff_mem, decide_eq_true_eq] at hla
        simp only [List.all_cons, Bool.and_eq_true] at hu
        exact ⟨.inr ⟨p.2, hu.1, hla.1⟩, hla.2⟩
    exact E_first hi' (Region.noSelect_spec hs) hQ' hll.1 hll.2 fuel listed a w hc (Region.free_spec hi' hf) hr hy hS (moves_sound hs hQ ms _ S ps _ _ _ fuel hu (hc.set hr) hm (by simpa using hl) rfl h)
  | (.step, i) :: ms, os, S, ps, listed, a, w, fuel + 1, hu, hc, hm, hl, ho, h => by
    simp only [mayMove, Bool.and_eq_true, decide_eq_true_eq, beq_iff_eq] at hm
    obtain ⟨⟨⟨hi, hr⟩, hne⟩, hm⟩ := hm
    have hi' : ops[i]? = some ops[i] := Array.getElem?_eq_getElem hi
    rw [List.filterMap_cons] at ho
    simp only [hi', Option.map_some] at ho
    subst ho
    refine ⟨fun h0 => absurd (hr ▸ h0) (by simp), fun j hj => ?_⟩
    have hjr := hj
    rw [hr] at hj
    simp only [List.mem_cons, List.not_mem_nil, or_false] at hj
    subst hj
    exact wpOp_step hi' fun K hK => h K fun S' a' w' hSS hS' hh => hK a' w' (by rw [if_neg hne]; exact ⟨hSS _ hS', E_mono hSS _ _ _ _ (moves_sound hs hQ ms _ S' ps _ _ _ fuel hu (hc.set hjr) hm (by simpa using hl) rfl hh)⟩)
  | (.late, i) :: ms, os, S, ps, listed, a, w, fuel + 1, hu, hc, hm, hl, ho, h => by
    simp only [mayMove, Bool.and_eq_true, decide_eq_true_eq, beq_iff_eq] at hm
    obtain ⟨⟨⟨hi, hr⟩, hne⟩, hm⟩ := hm
    have hi' : ops[i]? = some ops[i] := Array.getElem?_eq_getElem hi
    rw [List.filterMap_cons] at ho
    simp only [hi', Option.map_some] at ho
    subst ho
    refine ⟨fun h0 => absurd (hr ▸ h0) (by simp), fun j hj => ?_⟩
    have hjr := hj
    rw [hr] at hj
    simp only [List.mem_cons, List.not_mem_nil, or_false] at hj
    subst hj
    have hu' : (ps.tail.all fun p => chkUp md ops [p.1] p.2) = true := by
      cases ps with
      | nil => rfl
      | cons p ps => simp only [List.all_cons, Bool.and_eq_true] at hu; exact hu.2
    exact wpOp_step hi' fun K hK => h K fun S' a' w' hh => hK a' w' (by rw [if_pos hne]; exact any_of_E _ _ _ _ (moves_sound hs hQ ms _ S' ps.tail _ _ _ fuel hu' (hc.set hjr) hm (by simpa using hl) rfl hh))

/-- A region that draws its order, along the moves. -/
theorem region_moves {id : Nat} {a : Act} {w : World} (S : World → Prop) (ps : List (Nat × List (Nat × Nat))) (ms : List (Mv × Nat)) (os : List (Mv × Oper)) (hm : P.follows .mixedOrders = true) (hs : Region.noSelect ops = true)
    (hu : (ps.all fun p => chkUp .any ops [p.1] p.2) = true) (hmv : mayMove .any ops ps (Array.replicate ops.size false) ms = true) (hl : ms.length ≤ ops.size) (ho : os = ms.filterMap (fun m => (ops[m.2]?).map fun o => (m.1, o)))
    (hQ : ∀ c a d v w, Q (.panic c) (Act.put a (some d) v) w → Q (.panic c) a w)
    (h : wpMoves P ops Q os S a w.drew) : (Code.region id ops true).wp P Q a w :=
  wp_region_any hm (any_of_E _ _ _ _ (moves_sound hs hQ ms os S ps _ a _ _ hu (closed_none _) hmv hl ho h))

/-- .. where nothing is written but by late ones: what is read is read of the world at hand. -/
theorem region_still {id : Nat} {a : Act} {w : World} (ps : List (Nat × List (Nat × Nat))) (ms : List (Mv × Nat)) (os : List (Mv × Oper)) (hm : P.follows .mixedOrders = true) (hs : Region.noSelect ops = true)
    (hu : (ps.all fun p => chkUp .any ops [p.1] p.2) = true) (hmv : mayMove .any ops ps (Array.replicate ops.size false) ms = true) (hl : ms.length ≤ ops.size) (ho : os = ms.filterMap (fun m => (ops[m.2]?).map fun o => (m.1, o)))
    (hQ : ∀ c a d v w, Q (.panic c) (Act.put a (some d) v) w → Q (.panic c) a w)
    (h : wpMoves P ops Q os (fun u => u = w.drew) a w.drew) : (Code.region id ops true).wp P Q a w := region_moves _ ps ms os hm hs hu hmv hl ho hQ h

theorem mv_free {o : Oper} {ms : List (Mv × Oper)} {S : World → Prop} {a : Act} {w : World} (v : Value) (hy : Yields P ops o v a) (hS : S w) (h : wpMoves P ops Q ms S (a.put o.dst v) w) :
    wpMoves P ops Q ((.free, o) :: ms) S a w := ⟨v, hy, hS, h⟩
theorem mv_take {o : Oper} {ms : List (Mv × Oper)} {S : World → Prop} {a : Act} {w : World} (v : Value) (hy : YieldsIf P ops S o v a) (hS : S w) (h : wpMoves P ops Q ms S (a.put o.dst v) w) :
    wpMoves P ops Q ((.take, o) :: ms) S a w := ⟨v, hy, hS, h⟩
theorem mv_step {o : Oper} {ms : List (Mv × Oper)} {S : World → Prop} {a : Act} {w : World}
    (h : ∀ K : Act → World → Prop, Shut (∀ (S' : World → Prop) a' w', (∀ u, S' u → S u) → S' w' → wpMoves P ops Q ms S' a' w' → K a' w') →
      if Region.wanted o (yielded ops a.tmps) = true then Oper.wp P o a w K Q else K (a.put o.dst undef) w) : wpMoves P ops Q ((.step, o) :: ms) S a w := h
theorem mv_late {o : Oper} {ms : List (Mv × Oper)} {S : World → Prop} {a : Act} {w : World}
    (h : ∀ K : Act → World → Prop, Shut (∀ (S' : World → Prop) a' w', wpMoves P ops Q ms S' a' w' → K a' w') →
      if Region.wanted o (yielded ops a.tmps) = true then Oper.wp P o a w K Q else K (a.put o.dst undef) w) : wpMoves P ops Q ((.late, o) :: ms) S a w := h
theorem mv_done {S : World → Prop} {a : Act} {w : World} (h : Q .normal a w) : wpMoves P ops Q [] S a w := h
end
end Go.Proofs.YtfejdbmamaggpaaDoor
