/- How a struct or array of numbers and bools (nested as it may be) that came in reads: as its cells, written out. -/
import Derived.WalkKit
import Derived.ProofKit
import Derived.OpenShut
namespace Go.Proofs.YtfejdbmamaggpaaDoor
open Go.ChangeShapes Go.WideShapes Go.ChangeAt Go.RowKit
set_option linter.unusedVariables false

/-- The cells are numbers (of the kind that is listed) or bools ('none'). -/
def FlatC : List (Option IntKind) → List Value → Prop
  | [], cs => cs = []
  | some k :: ks, cs => ∃ n r, cs = .int k n :: r ∧ (Lit.int k n).wf = true ∧ FlatC ks r
  | none :: ks, cs => ∃ b r, cs = .bool b :: r ∧ FlatC ks r

theorem FlatC.length : ∀ {ks : List (Option IntKind)} {cs : List Value}, FlatC ks cs → cs.length = ks.length
  | [], _, h => by have h : _ = _ := h; subst h; rfl
  | some k :: ks, _, ⟨n, r, e, _, h⟩ => by subst e; simp [FlatC.length h]
  | none :: ks, _, ⟨b, r, e, h⟩ => by subst e; simp [FlatC.length h]

theorem FlatC.append : ∀ {ks js : List (Option IntKind)} {cs ds : List Value}, FlatC ks cs → FlatC js ds → FlatC (ks ++ js) (cs ++ ds)
  | [], _, _, _, h, g => by have h : _ = _ := h; subst h; exact g
  | some k :: ks, _, _, _, ⟨n, r, e, w, h⟩, g => by subst e; exact ⟨n, _, rfl, w, h.append g⟩
  | none :: ks, _, _, _, ⟨b, r, e, h⟩, g => by subst e; exact ⟨b, _, rfl, h.append g⟩

/-- The kinds of a row of fields that lie one behind the other from 'off' on. -/
def flatFields (P : Program) (fl : TypeId → Option (List (Option IntKind))) : Nat → List Field → Option (List (Option IntKind))
  | _, [] => some []
  | off, f :: fs => match fl f.type with
    | none => none
    | some ks => if f.offset = off ∧ P.cellsOf f.type = ks.length then (flatFields P fl (off + ks.length) fs).map (ks ++ ·) else none

def flat (P : Program) : Nat → TypeId → Option (List (Option IntKind))
  | 0, _ => none
  | n + 1, t => match P.underlying t with
    | some (.int k) => some [some k]
    | some .bool => some [none]
    | some (.struct fs) => (flatFields P (flat P n) 0 fs.toList).bind fun ks => if P.cellsOf t = ks.length then some ks else none
    | some (.array m e) => (flat P n e).bind fun ks => if P.cellsOf e = ks.length ∧ P.cellsOf t = m * ks.length then some ((List.replicate m ks).flatten) else none
    | _ => none

section
variable {H : Type} {enc : TypeId × Value → H} {P : Program} {w : World} {base : Nat} {spare : Nat → Bool} {held : Bool}

theorem flat_fields (fl : TypeId → Option (List (Option IntKind))) (cs : List Value) : ∀ (fs : List Field) (off : Nat) (ks : List (Option IntKind)), flatFields P fl off fs = some ks →
    (∀ f ∈ fs, ∀ js, fl f.type = some js → FlatC js ((cs.drop f.offset).take (P.cellsOf f.type))) → off + ks.length = cs.length → FlatC ks (cs.drop off)
  | [], off, ks, h, _, hl => by
    simp [flatFields] at h; subst h
    simp at hl
    show cs.drop off = []
    simp [hl]
  | f :: fs, off, ks, h, hf, hl => by
    unfold flatFields at h
    cases e : fl f.type with
    | none => simp [e] at h
    | some js =>
      simp only [e] at h
      split at h
      · rename_i hc
        obtain ⟨rfl, hcells⟩ := hc
        simp only [Option.map_eq_some_iff] at h
        obtain ⟨rest, hr, rfl⟩ := h
        have h1 := hf f (by simp) js e
        rw [hcells] at h1
        have h2 := flat_fields fl cs fs _ rest hr (fun g hg => hf g (by simp [hg])) (by simp at hl; omega)
        have := h1.append h2
        rwa [← List.drop_drop, List.take_append_drop] at this
      · simp at h

theorem flat_rows (ks : List (Option IntKind)) (cs : List Value) : ∀ (m off : Nat), (∀ i, i < m → FlatC ks ((cs.drop (off + i * ks.length)).take ks.length)) → off + m * ks.length = cs.length → FlatC ((List.replicate m ks).flatten) (cs.drop off)
  | 0, off, _, hl => by
    simp at hl
    show cs.drop off = []
    simp [hl]
  | m + 1, off, h, hl => by
    rw [List.replicate_succ, List.flatten_cons]
    have h1 := h 0 (by omega)
    simp at h1
    have h2 := flat_rows ks cs m (off + ks.length) (fun i hi => by
      have := h (i + 1) (by omega)
      rwa [Nat.add_mul, Nat.one_mul, Nat.add_comm (i * ks.length), ← Nat.add_assoc] at this) (by rw [Nat.add_mul] at hl; omega)
    have := h1.append h2
    rwa [← List.drop_drop, List.take_append_drop] at this

theorem flat_of_trod : ∀ (n : Nat) (t : TypeId) (ks : List (Option IntKind)) (fuel : Nat) (cs : List Value) (x : DataW H × List MemPlace), flat P n t = some ks →
    DataW.trod enc P w base spare held fuel t cs = some x → FlatC ks cs
  | 0, _, _, _, _, _, h, _ => by simp [flat] at h
  | n + 1, t, ks, fuel, cs, x, h, ht => by
    unfold flat at h
    split at h
    · rename_i k hu
      simp at h; subst h
      obtain ⟨m, rfl, _, hw⟩ := DataW.trod_int hu ht
      exact ⟨m, [], rfl, hw, rfl⟩
    · rename_i hu
      simp at h; subst h
      obtain ⟨b, rfl, _⟩ := DataW.trod_bool hu ht
      exact ⟨b, [], rfl, rfl⟩
    · rename_i fs hu
      simp only [Option.bind_eq_some_iff] at h
      obtain ⟨js, hj, h⟩ := h
      split at h
      · rename_i hc
        simp at h; subst h
        obtain ⟨xs, m, rfl, _, hl, hxl, hx⟩ := DataW.trod_struct hu ht
        have := flat_fields (P := P) (flat P n) cs fs.toList 0 js hj (fun f hf js' hjs => by
          obtain ⟨i, hi⟩ := List.getElem?_of_mem hf
          have hi' : fs[i]? = some f := by simpa using hi
          have hlt : i < fs.size := by
            have := List.getElem?_eq_some_iff.1 hi
            obtain ⟨h1, _⟩ := this
            simpa using h1
          have h2 := hx i f hi'
          have : ∃ y, xs[i]? = some y := ⟨xs[i]'(by omega), by simp [hxl, hlt]⟩
          obtain ⟨y, hy⟩ := this
          rw [hy] at h2
          exact flat_of_trod n _ js' m _ y hjs h2) (by omega)
        simpa using this
      · simp at h
    · rename_i m e hu
      simp only [Option.bind_eq_some_iff] at h
      obtain ⟨js, hj, h⟩ := h
      split at h
      · rename_i hc
        obtain ⟨hc1, hc2⟩ := hc
        simp at h; subst h
        obtain ⟨xs, q, rfl, _, hl, hxl, hx⟩ := DataW.trod_array hu ht
        have := flat_rows js cs m 0 (fun i hi => by
          have h2 := hx i hi
          have : ∃ y, xs[i]? = some y := ⟨xs[i]'(by omega), by simp [hxl, hi]⟩
          obtain ⟨y, hy⟩ := this
          rw [hy, hc1] at h2
          rw [Nat.zero_add]
          exact flat_of_trod n _ js q _ y hj h2) (by omega)
        simpa using this
      · simp at h
    · simp at h

/-- A struct or an array that came in: its cells, written out. -/
theorem open_flat {r : Reach} {b0 : Nat} {t : TypeId} {v : Value} {d : DataW H} {p : List MemPlace} (ks : List (Option IntKind)) (ha : (match P.underlying t with | some (.struct _) => true | some (.array _ _) => true | _ => false) = true) (hf : flat P 8 t = some ks)
    (hv : Value.okWide P w r b0 t v) (h : DataW.Trod enc P w base spare held t v d p) : ∃ cs : List Value, v = .agg cs.toArray ∧ FlatC ks cs := by
  obtain ⟨fuel, hx⟩ := h
  have : ∃ cs, v = .agg cs := by
    unfold Value.okWide at hv
    split at ha
    · rename_i hu; simp only [hu] at hv; obtain ⟨cs, h1, _⟩ := hv; exact ⟨cs, h1⟩
    · rename_i hu; simp only [hu] at hv; obtain ⟨cs, h1, _⟩ := hv; exact ⟨cs, h1⟩
    · simp at ha
  obtain ⟨cs, rfl⟩ := this
  exact ⟨cs.toList, by simp, flat_of_trod 8 t ks fuel _ _ hf (by simpa [Value.cells] using hx)⟩
end
end Go.Proofs.YtfejdbmamaggpaaDoor
