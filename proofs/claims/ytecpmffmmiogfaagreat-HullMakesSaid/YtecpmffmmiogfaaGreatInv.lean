/- A region that draws its order, walked by an invariant over what has been listed: one step an operation, however many orders there are. -/
import Derived.Test.YtecpmffmmiogfaaGreatReg
namespace Go.Proofs.YtecpmffmmiogfaaGreat
open Go.ChangeShapes Go.WideShapes Go.ChangeAt Go.RowKit
set_option linter.unusedVariables false

section
variable {P : Program} {ops : Array Oper} {Q : Exit → Act → World → Prop}

/-- Each operation waits for earlier ones alone. -/
def sortedB (ops : Array Oper) : Bool := (List.range ops.size).all fun i => (depsOf .any ops i).all fun x => decide (x < i)

theorem listed_all {listed : Array Bool} (hn : listed.size = ops.size) (hs : sortedB ops = true) (hr : Region.ready .any ops listed = []) : ∀ i, i < ops.size → listed.getD i false = true := by
  intro i
  induction i using Nat.strongRecOn with
  | _ i ih =>
    intro hi
    cases hb : listed.getD i false with
    | true => rfl
    | false =>
      exfalso
      have hmem : i ∈ Region.ready .any ops listed := by
        refine mem_ready.2 ⟨?_, ops[i], by simp [hi], fun e he hbd => ?_⟩
        · have hl : i < listed.size := by omega
          simp only [Array.getD, hl, dif_pos] at hb ⊢
          exact hb
        · have hd : e.on ∈ depsOf .any ops i := by
            simp only [depsOf, Array.getElem?_eq_getElem hi, Option.map_some, Option.getD_some, List.mem_map, List.mem_filter, Array.mem_toList_iff]
            exact ⟨e, ⟨he, hbd⟩, rfl⟩
          have h1 := List.all_eq_true.1 hs i (List.mem_range.2 hi)
          have h2 := of_decide_eq_true (List.all_eq_true.1 h1 _ hd)
          exact ih _ h2 (by omega)
      rw [hr] at hmem
      cases hmem

def falses (listed : Array Bool) : Nat := (listed.toList.filter fun b => !b).length
theorem falses_set {listed : Array Bool} {i : Nat} (hi : i < listed.size) (hf : listed.getD i false = false) : falses (listed.setIfInBounds i true) + 1 = falses listed := by
  obtain ⟨l⟩ := listed
  simp only [falses, List.setIfInBounds_toArray]
  have hi' : i < l.length := hi
  have hf' : l[i] = false := by simpa [Array.getD, hi'] using hf
  clear hi hf
  induction l generalizing i with
  | nil => simp at hi'
  | cons x l ih =>
    cases i with
    | zero =>
      simp at hf'
      subst hf'
      simp
    | succ i =>
      have := ih (i := i) (by simpa using hi') (by simpa using hf')
      cases x <;> simp at this ⊢ <;> omega

theorem any_inv (Inv : (Nat → Bool) → Act → World → Prop) (hs : sortedB ops = true)
    (hstep : ∀ (i : Nat) (o : Oper), ops[i]? = some o → ∀ (b : Nat → Bool) (a : Act) (w : World), Inv b a w → b i = false → (∀ x ∈ depsOf .any ops i, b x = true) →
      ∀ K : Act → World → Prop, Shut (∀ a' w', Inv (fun x => x == i || b x) a' w' → K a' w') → if Region.wanted o (yielded ops a.tmps) = true then Oper.wp P o a w K Q else K (a.put o.dst undef) w)
    (hend : ∀ (b : Nat → Bool) (a : Act) (w : World), (∀ i, i < ops.size → b i = true) → Inv b a w → Q .normal a w) :
    ∀ (fuel : Nat) (listed : Array Bool) (a : Act) (w : World), listed.size = ops.size → falses listed ≤ fuel → Inv (fun x => listed.getD x false) a w → wpAny P .any ops Q fuel listed a w
  | 0, listed, a, w, hn, hf, hI => by
    have hall : ∀ i, i < ops.size → listed.getD i false = true := fun i hi => by
      cases hb : listed.getD i false with
      | true => rfl
      | false => have := falses_set (listed := listed) (i := i) (by omega) hb; omega
    refine ⟨?_, hend _ a w hall hI⟩
    apply List.eq_nil_iff_forall_not_mem.2
    intro j hj
    obtain ⟨h1, o, ho, -⟩ := mem_ready.1 hj
    have hlt : j < ops.size := (Array.getElem?_eq_some_iff.1 ho).1
    have := hall j hlt
    have hl : j < listed.size := by omega
    simp only [Array.getD, hl, dif_pos] at h1 this
    rw [h1] at this
    cases this
  | fuel + 1, listed, a, w, hn, hf, hI => by
    refine ⟨fun hr => hend _ a w (listed_all hn hs hr) hI, fun i hi => ?_⟩
    obtain ⟨h1, o, ho, -⟩ := mem_ready.1 hi
    have hlt : i < ops.size := (Array.getElem?_eq_some_iff.1 ho).1
    have hl : i < listed.size := by omega
    have h2 : listed.getD i false = false := by
      simp only [Array.getD, hl, dif_pos] at h1 ⊢
      exact h1
    have e : (fun x => x == i || listed.getD x false) = fun x => (listed.setIfInBounds i true).getD x false := by
      funext x
      by_cases hx : x = i
      · subst hx
        simp [Array.getD, hl]
      · have hxi : (x == i) = false := by simp [hx]
        rw [hxi, Bool.false_or]
        simp only [Array.getD, Array.size_setIfInBounds]
        by_cases hxl : x < listed.size
        · simp [hxl, Ne.symm hx]
        · simp [hxl]
    refine wpOp_step ho fun K hK => hstep i o ho (fun x => listed.getD x false) a w hI h2 (ready_deps hi) K ?_
    rw [e]
    exact fun a' w' h => hK a' w' (any_inv Inv hs hstep hend fuel _ a' w' (by simpa using hn) (by have := falses_set hl h2; omega) h)

/-- A region that draws its order, by an invariant. -/
theorem region_inv {id : Nat} {a : Act} {w : World} (Inv : (Nat → Bool) → Act → World → Prop) (hm : P.follows .mixedOrders = true) (hs : sortedB ops = true)
    (h0 : Inv (fun _ => false) a w.drew)
    (hstep : ∀ (i : Nat) (o : Oper), ops[i]? = some o → ∀ (b : Nat → Bool) (a : Act) (w : World), Inv b a w → b i = false → (∀ x ∈ depsOf .any ops i, b x = true) →
      ∀ K : Act → World → Prop, Shut (∀ a' w', Inv (fun x => x == i || b x) a' w' → K a' w') → if Region.wanted o (yielded ops a.tmps) = true then Oper.wp P o a w K Q else K (a.put o.dst undef) w)
    (hend : ∀ (b : Nat → Bool) (a : Act) (w : World), (∀ i, i < ops.size → b i = true) → Inv b a w → Q .normal a w) : (Code.region id ops true).wp P Q a w := by
  refine wp_region_any hm (any_inv Inv hs hstep hend _ _ a _ (by simp) (by simp [falses]) ?_)
  have e : (fun x => (Array.replicate ops.size false).getD x false) = fun _ => false := by
    funext x
    simp only [Array.getD]
    split <;> simp
  rw [e]
  exact h0
/-- .. that speaks of the act at the begin. -/
theorem region_inv_at {id : Nat} {a : Act} {w : World} (Inv : Act → World → (Nat → Bool) → Act → World → Prop) (hm : P.follows .mixedOrders = true) (hs : sortedB ops = true)
    (h0 : Inv a w (fun _ => false) a w.drew)
    (hstep : ∀ (i : Nat) (o : Oper), ops[i]? = some o → ∀ (b : Nat → Bool) (a' : Act) (u : World), Inv a w b a' u → b i = false → (∀ x ∈ depsOf .any ops i, b x = true) →
      ∀ K : Act → World → Prop, Shut (∀ a2 u2, Inv a w (fun x => x == i || b x) a2 u2 → K a2 u2) → if Region.wanted o (yielded ops a'.tmps) = true then Oper.wp P o a' u K Q else K (a'.put o.dst undef) u)
    (hend : ∀ (b : Nat → Bool) (a' : Act) (u : World), (∀ i, i < ops.size → b i = true) → Inv a w b a' u → Q .normal a' u) : (Code.region id ops true).wp P Q a w :=
  region_inv (Inv a w) hm hs h0 hstep hend
end

/-- What stands in a slot. -/
def slotOf (a : Act) (s : Nat) : Value := a.tmps.getD s undef
/-- But for the slots ds an act is as another one. -/
structure Sk (ds : List Nat) (a0 a : Act) : Prop where
  defers : a.defers = a0.defers
  size : a.tmps.size = a0.tmps.size
  slot : ∀ s, s ∉ ds → a.tmps.getD s undef = a0.tmps.getD s undef
theorem Sk.refl (ds : List Nat) (a : Act) : Sk ds a a := ⟨rfl, rfl, fun _ _ => rfl⟩
theorem put_same {a : Act} {d : Nat} (v : Value) (h : d < a.tmps.size) : (a.put (some d) v).tmps.getD d undef = v := by
  simp [Act.put, Array.getD, h]
theorem put_other {a : Act} {d s : Nat} (v : Value) (h : s ≠ d) : (a.put (some d) v).tmps.getD s undef = a.tmps.getD s undef := by
  by_cases hs : s < a.tmps.size
  · simp [Act.put, Array.getD, hs, Ne.symm h]
  · simp [Act.put, Array.getD, hs]
theorem Sk.put {ds : List Nat} {a0 a : Act} (h : Sk ds a0 a) {d : Nat} (hd : d ∈ ds) (v : Value) : Sk ds a0 (a.put (some d) v) :=
  ⟨h.defers, by simpa [Act.put] using h.size, fun s hs => (put_other v (fun e => hs (by rw [e]; exact hd))).trans (h.slot s hs)⟩
theorem put_defers (a : Act) (d : Nat) (v : Value) : (a.put (some d) v).defers = a.defers := rfl
theorem put_size (a : Act) (d : Nat) (v : Value) : (a.put (some d) v).tmps.size = a.tmps.size := by simp [Act.put]
theorem act_ext {a b : Act} (h1 : a.defers = b.defers) (h2 : a.tmps.size = b.tmps.size) (h3 : ∀ s, s < b.tmps.size → a.tmps.getD s undef = b.tmps.getD s undef) : a = b := by
  obtain ⟨ta, da⟩ := a
  obtain ⟨tb, db⟩ := b
  simp only at h1 h2 h3
  subst h1
  have : ta = tb := by
    apply Array.ext h2
    intro i hi hi'
    have := h3 i hi'
    simpa [Array.getD, hi, hi'] using this
  rw [this]
end Go.Proofs.YtecpmffmmiogfaaGreat
