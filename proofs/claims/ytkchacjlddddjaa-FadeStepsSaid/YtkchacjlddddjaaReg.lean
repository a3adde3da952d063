/- A region that draws its order, walked along one list of moves: an operation is taken first (it yields its value in every world that meets S), or it comes up alone; S may be sharpened behind each that comes up. -/
import Derived.Test.YtkchacjlddddjaaBase
namespace Go.Proofs.Ytkchacjlddddjaa
open Go.ChangeShapes Go.WideShapes Go.ChangeAt Go.RowKit
set_option linter.unusedVariables false

section
variable {P : Program} {ops : Array Oper} {Q : Exit → Act → World → Prop} {md : Region.Mode}

theorem anyH_mono {S S' : World → Prop} (h : ∀ w, S' w → S w) : ∀ (fuel : Nat) (listed : Array Bool) (a : Act) (w : World), wpAnyH P md ops Q S' fuel listed a w → wpAnyH P md ops Q S fuel listed a w
  | 0, _, _, _, hh => hh
  | fuel + 1, _, _, _, hh => ⟨hh.1, fun i hi => wpOp_mono (fun a' w' h' => ⟨h _ h'.1, anyH_mono h _ _ _ _ h'.2⟩) (hh.2 i hi)⟩

/-- Along the moves: 'true': taken first; 'false': it comes up alone. -/
def wpMoves (P : Program) (ops : Array Oper) (Q : Exit → Act → World → Prop) : List (Bool × Oper) → (World → Prop) → Act → World → Prop
  | [], _, a, w => Q .normal a w
  | (true, o) :: ms, S, a, w => ∃ v, YieldsIf P ops S o v a ∧ S w ∧ wpMoves P ops Q ms S (a.put o.dst v) w
  | (false, o) :: ms, S, a, w => ∀ K : Act → World → Prop, (∀ (S' : World → Prop) a' w', (∀ u, S' u → S u) → S' w' → wpMoves P ops Q ms S' a' w' → K a' w') →
      if Region.wanted o (yielded ops a.tmps) = true then Oper.wp P o a w K Q else K (a.put o.dst undef) w

/-- The moves are such as the region allows. -/
def mayMove (md : Region.Mode) (ops : Array Oper) : Array Bool → List (Bool × Nat) → Bool
  | listed, [] => Region.ready md ops listed == []
  | listed, (true, i) :: ms => decide (i < ops.size) && Region.free md ops listed i && (Region.ready md ops listed).contains i && mayMove md ops (listed.setIfInBounds i true) ms
  | listed, (false, i) :: ms => decide (i < ops.size) && Region.ready md ops listed == [i] && mayMove md ops (listed.setIfInBounds i true) ms

theorem moves_sound (hs : Region.noSelect ops = true) (hQ : ∀ c a d v w, Q (.panic c) (Act.put a (some d) v) w → Q (.panic c) a w) :
    ∀ (ms : List (Bool × Nat)) (os : List (Bool × Oper)) (S : World → Prop) (listed : Array Bool) (a : Act) (w : World) (fuel : Nat), mayMove md ops listed ms = true → ms.length ≤ fuel →
      os = ms.filterMap (fun m => (ops[m.2]?).map fun o => (m.1, o)) →
      wpMoves P ops Q os S a w → wpAnyH P md ops Q S fuel listed a w
  | [], os, S, listed, a, w, fuel, hm, _, ho, h => by
    subst ho
    exact wpAnyH_done (by simpa [mayMove] using hm) h fuel
  | (true, i) :: ms, os, S, listed, a, w, 0, hm, hl, ho, h => by simp at hl
  | (false, i) :: ms, os, S, listed, a, w, 0, hm, hl, ho, h => by simp at hl
  | (true, i) :: ms, os, S, listed, a, w, fuel + 1, hm, hl, ho, h => by
    simp only [mayMove, Bool.and_eq_true, decide_eq_true_eq] at hm
    obtain ⟨⟨⟨hi, hf⟩, hr⟩, hm⟩ := hm
    have hi' : ops[i]? = some ops[i] := Array.getElem?_eq_getElem hi
    rw [List.filterMap_cons] at ho
    simp only [hi', Option.map_some] at ho
    subst ho
    obtain ⟨v, hy, hS, h⟩ := h
    exact wpAnyH_take hi' hs hf hr (fun c a w h => by cases hd : ops[i].dst with | none => rw [hd] at h; exact h | some d => rw [hd] at h; exact hQ c a _ _ w h) hy hS (moves_sound hs hQ ms _ S _ _ _ fuel hm (by simpa using hl) rfl h)
  | (false, i) :: ms, os, S, listed, a, w, fuel + 1, hm, hl, ho, h => by
    simp only [mayMove, Bool.and_eq_true, decide_eq_true_eq, beq_iff_eq] at hm
    obtain ⟨⟨hi, hr⟩, hm⟩ := hm
    have hi' : ops[i]? = some ops[i] := Array.getElem?_eq_getElem hi
    rw [List.filterMap_cons] at ho
    simp only [hi', Option.map_some] at ho
    subst ho
    refine wpAnyH_all hr (by simp) fun j hj => ?_
    simp only [List.mem_cons, List.not_mem_nil, or_false] at hj
    subst hj
    exact wpOp_step hi' fun K hK => h K fun S' a' w' hSS hS' hh => hK a' w' ⟨hSS _ hS', anyH_mono hSS _ _ _ _ (moves_sound hs hQ ms _ S' _ _ _ fuel hm (by simpa using hl) rfl hh)⟩

/-- A region that draws its order, along the moves. -/
theorem region_moves {id : Nat} {a : Act} {w : World} (S : World → Prop) (ms : List (Bool × Nat)) (os : List (Bool × Oper)) (hm : P.follows .mixedOrders = true) (hs : Region.noSelect ops = true)
    (hmv : mayMove .any ops (Array.replicate ops.size false) ms = true) (hl : ms.length ≤ ops.size) (ho : os = ms.filterMap (fun m => (ops[m.2]?).map fun o => (m.1, o)))
    (hQ : ∀ c a d v w, Q (.panic c) (Act.put a (some d) v) w → Q (.panic c) a w)
    (h : wpMoves P ops Q os S a w.drew) : (Code.region id ops true).wp P Q a w :=
  wp_region_held hm (moves_sound hs hQ ms os S _ _ _ _ hmv hl ho h)

theorem mv_take {o : Oper} {ms : List (Bool × Oper)} {S : World → Prop} {a : Act} {w : World} (v : Value) (hy : YieldsIf P ops S o v a) (hS : S w) (h : wpMoves P ops Q ms S (a.put o.dst v) w) :
    wpMoves P ops Q ((true, o) :: ms) S a w := ⟨v, hy, hS, h⟩
theorem mv_step {o : Oper} {ms : List (Bool × Oper)} {S : World → Prop} {a : Act} {w : World}
    (h : ∀ K : Act → World → Prop, Shut (∀ (S' : World → Prop) a' w', (∀ u, S' u → S u) → S' w' → wpMoves P ops Q ms S' a' w' → K a' w') →
      if Region.wanted o (yielded ops a.tmps) = true then Oper.wp P o a w K Q else K (a.put o.dst undef) w) : wpMoves P ops Q ((false, o) :: ms) S a w := h
theorem mv_done {S : World → Prop} {a : Act} {w : World} (h : Q .normal a w) : wpMoves P ops Q [] S a w := h
end
end Go.Proofs.Ytkchacjlddddjaa
