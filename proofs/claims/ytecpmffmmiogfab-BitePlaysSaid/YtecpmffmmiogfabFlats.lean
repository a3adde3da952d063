/- Tables that came in: rows of flat cells, among them strings. -/
import Derived.WalkKit
import Derived.ProofKit
import Derived.OpenShut
import Derived.ChangeMaps5
import Derived.Test.YtecpmffmmiogfabObj
namespace Go.Proofs.Ytecpmffmmiogfab
open Go.ChangeShapes Go.WideShapes Go.ChangeAt Go.RowKit
set_option linter.unusedVariables false

inductive FK where
  | num (k : IntKind)
  | boo
  | str
/-- The cells are numbers (of the kind that is listed), bools or strings. -/
def FlatS : List FK → List Value → Prop
  | [], cs => cs = []
  | .num k :: ks, cs => ∃ n r, cs = .int k n :: r ∧ (Lit.int k n).wf = true ∧ FlatS ks r
  | .boo :: ks, cs => ∃ b r, cs = .bool b :: r ∧ FlatS ks r
  | .str :: ks, cs => ∃ s r, cs = .string s :: r ∧ s.size ≤ maxLen ∧ FlatS ks r

theorem FlatS.length : ∀ {ks : List FK} {cs : List Value}, FlatS ks cs → cs.length = ks.length
  | [], _, h => by have h : _ = _ := h; subst h; rfl
  | .num k :: ks, _, ⟨n, r, e, _, h⟩ => by subst e; simp [FlatS.length h]
  | .boo :: ks, _, ⟨b, r, e, h⟩ => by subst e; simp [FlatS.length h]
  | .str :: ks, _, ⟨b, r, e, _, h⟩ => by subst e; simp [FlatS.length h]

theorem FlatS.append : ∀ {ks js : List FK} {cs ds : List Value}, FlatS ks cs → FlatS js ds → FlatS (ks ++ js) (cs ++ ds)
  | [], _, _, _, h, g => by have h : _ = _ := h; subst h; exact g
  | .num k :: ks, _, _, _, ⟨n, r, e, w, h⟩, g => by subst e; exact ⟨n, _, rfl, w, h.append g⟩
  | .boo :: ks, _, _, _, ⟨b, r, e, h⟩, g => by subst e; exact ⟨b, _, rfl, h.append g⟩
  | .str :: ks, _, _, _, ⟨b, r, e, w, h⟩, g => by subst e; exact ⟨b, _, rfl, w, h.append g⟩

/-- The kinds of a row of fields that lie one behind the other from 'off' on. -/
def flatsFields (P : Program) (fl : TypeId → Option (List FK)) : Nat → List Field → Option (List FK)
  | _, [] => some []
  | off, f :: fs => match fl f.type with
    | none => none
    | some ks => if f.offset = off ∧ P.cellsOf f.type = ks.length then (flatsFields P fl (off + ks.length) fs).map (ks ++ ·) else none

def flats (P : Program) : Nat → TypeId → Option (List FK)
  | 0, _ => none
  | n + 1, t => match P.underlying t with
    | some (.int k) => some [.num k]
    | some .bool => some [.boo]
    | some .string => some [.str]
    | some (.struct fs) => (flatsFields P (flats P n) 0 fs.toList).bind fun ks => if P.cellsOf t = ks.length then some ks else none
    | some (.array m e) => (flats P n e).bind fun ks => if P.cellsOf e = ks.length ∧ P.cellsOf t = m * ks.length then some ((List.replicate m ks).flatten) else none
    | _ => none

section
variable {H : Type} {enc : TypeId × Value → H} {P : Program} {w : World} {base : Nat} {spare : Nat → Bool} {held : Bool}

theorem flats_fields (fl : TypeId → Option (List FK)) (cs : List Value) : ∀ (fs : List Field) (off : Nat) (ks : List FK), flatsFields P fl off fs = some ks →
    (∀ f ∈ fs, ∀ js, fl f.type = some js → FlatS js ((cs.drop f.offset).take (P.cellsOf f.type))) → off + ks.length = cs.length → FlatS ks (cs.drop off)
  | [], off, ks, h, _, hl => by
    simp [flatsFields] at h; subst h
    simp at hl
    show cs.drop off = []
    simp [hl]
  | f :: fs, off, ks, h, hf, hl => by
    unfold flatsFields at h
    cases e : fl f.type with
    | none => simp [e] at h
    | some js =>
      simp only [e] at h
      split at h
      · rename_i hc
        obtain ⟨rfl, hcells⟩ := hc
        simp only [Option.map_eq_some_iff] at h
        obtain ⟨rest, hr, rfl⟩ := h
        have h1 := hf f (by simp) js e
        rw [hcells] at h1
        have h2 := flats_fields fl cs fs _ rest hr (fun g hg => hf g (by simp [hg])) (by simp at hl; omega)
        have := h1.append h2
        rwa [← List.drop_drop, List.take_append_drop] at this
      · simp at h

theorem flats_rows (ks : List FK) (cs : List Value) : ∀ (m off : Nat), (∀ i, i < m → FlatS ks ((cs.drop (off + i * ks.length)).take ks.length)) → off + m * ks.length = cs.length → FlatS ((List.replicate m ks).flatten) (cs.drop off)
  | 0, off, _, hl => by
    simp at hl
    show cs.drop off = []
    simp [hl]
  | m + 1, off, h, hl => by
    rw [List.replicate_succ, List.flatten_cons]
    have h1 := h 0 (by omega)
    simp at h1
    have h2 := flats_rows ks cs m (off + ks.length) (fun i hi => by
      have := h (i + 1) (by omega)
      rwa [Nat.add_mul, Nat.one_mul, Nat.add_comm (i * ks.length), ← Nat.add_assoc] at this) (by rw [Nat.add_mul] at hl; omega)
    have := h1.append h2
    rwa [← List.drop_drop, List.take_append_drop] at this

theorem flats_of_trod : ∀ (n : Nat) (t : TypeId) (ks : List FK) (fuel : Nat) (cs : List Value) (x : DataW H × List MemPlace), flats P n t = some ks →
    DataW.trod enc P w base spare held fuel t cs = some x → FlatS ks cs
  | 0, _, _, _, _, _, h, _ => by simp [flats] at h
  | n + 1, t, ks, fuel, cs, x, h, ht => by
    unfold flats at h
    split at h
    · rename_i k hu
      simp at h; subst h
      obtain ⟨m, rfl, _, hw⟩ := DataW.trod_int hu ht
      exact ⟨m, [], rfl, hw, rfl⟩
    · rename_i hu
      simp at h; subst h
      obtain ⟨b, rfl, _⟩ := DataW.trod_bool hu ht
      exact ⟨b, [], rfl, rfl⟩
    · rename_i hu
      simp at h; subst h
      obtain ⟨s, rfl, _, hs⟩ := DataW.trod_string hu ht
      exact ⟨s, [], rfl, hs, rfl⟩
    · rename_i fs hu
      simp only [Option.bind_eq_some_iff] at h
      obtain ⟨js, hj, h⟩ := h
      split at h
      · rename_i hc
        simp at h; subst h
        obtain ⟨xs, m, rfl, _, hl, hxl, hx⟩ := DataW.trod_struct hu ht
        have := flats_fields (P := P) (flats P n) cs fs.toList 0 js hj (fun f hf js' hjs => by
          obtain ⟨i, hi⟩ := List.getElem?_of_mem hf
          have hi' : fs[i]? = some f := by simpa using hi
          have hlt : i < fs.size := by
            have := List.getElem?_eq_some_iff.1 hi
            obtain ⟨h1, _⟩ := this
            simpa using h1
          have h2 := hx i f hi'
          have : ∃ y, xs[i]? = some y := ⟨xs[i]'(by omega), by simp [hxl, hlt]⟩
          obtain ⟨y, hy⟩ := this
          rw [hy] at h2
          exact flats_of_trod n _ js' m _ y hjs h2) (by omega)
        simpa using this
      · simp at h
    · rename_i m e hu
      simp only [Option.bind_eq_some_iff] at h
      obtain ⟨js, hj, h⟩ := h
      split at h
      · rename_i hc
        obtain ⟨hc1, hc2⟩ := hc
        simp at h; subst h
        obtain ⟨xs, q, rfl, _, hl, hxl, hx⟩ := DataW.trod_array hu ht
        have := flats_rows js cs m 0 (fun i hi => by
          have h2 := hx i hi
          have : ∃ y, xs[i]? = some y := ⟨xs[i]'(by omega), by simp [hxl, hi]⟩
          obtain ⟨y, hy⟩ := this
          rw [hy, hc1] at h2
          rw [Nat.zero_add]
          exact flats_of_trod n _ js q _ y hj h2) (by omega)
        simpa using this
      · simp at h
    · simp at h
end
/-- A table that came in as a slice: rows of flat cells (kinds ks), one behind the other. -/
structure TabS (ks : List FK) (w : World) (a : Option Addr) (rows : List (List Value)) : Prop where
  flat : ∀ r ∈ rows, FlatS ks r
  cells : rows = [] ∨ ∃ b off, a = some ⟨b, off, none⟩ ∧ b < w.heap.size ∧ ∀ i, i < rows.length → ∀ j v, (rows.getD i [])[j]? = some v → w.cell? ⟨b, off + i * ks.length + j, none⟩ = some v

theorem TabS.below {ks : List FK} {w w' : World} {a : Option Addr} {rows : List (List Value)} (h : TabS ks w a rows) (hb : Below w.heap.size w w') : TabS ks w' a rows := by
  refine ⟨h.flat, ?_⟩
  rcases h.cells with h0 | ⟨b, off, e, hlt, hc⟩
  · exact .inl h0
  · exact .inr ⟨b, off, e, Nat.lt_of_lt_of_le hlt hb.size, fun i hi j v hv => (hb.cell (p := ⟨b, off + i * ks.length + j, none⟩) hlt).trans (hc i hi j v hv)⟩

theorem TabS.at {ks : List FK} {w : World} {a : Option Addr} {rows : List (List Value)} (h : TabS ks w a rows) {i : Nat} (hi : i < rows.length) :
    ∃ b off r, a = some ⟨b, off, none⟩ ∧ b < w.heap.size ∧ rows.getD i [] = r ∧ FlatS ks r ∧ ∀ j v, r[j]? = some v → w.cell? ⟨b, off + i * ks.length + j, none⟩ = some v := by
  rcases h.cells with h0 | ⟨b, off, e, hlt, hc⟩
  · rw [h0] at hi; simp at hi
  · refine ⟨b, off, _, e, hlt, rfl, h.flat _ ?_, hc i hi⟩
    simp [List.getD, hi]

section
variable {H : Type} {enc : TypeId × Value → H} {P : Program} {w : World} {base : Nat} {spare : Nat → Bool} {held : Bool}
theorem open_tabs {r : Reach} {b0 : Nat} {t e : TypeId} {v : Value} {d : DataW H} {p : List MemPlace} (ks : List FK) (ht : P.underlying t = some (.slice e)) (hf : Go.Proofs.Ytecpmffmmiogfab.flats P 8 e = some ks) (hc : P.cellsOf e = ks.length) (hk : 0 < ks.length)
    (hv : Value.okWide P w r b0 t v) (h : DataW.Trod enc P w base spare held t v d p) : ∃ (a : Option Addr) (cap : Nat) (rows : List (List Value)), v = .slice a rows.length cap ∧ rows.length ≤ cap ∧ cap ≤ maxLen ∧ TabS ks w a rows := by
  obtain ⟨a, len, cap, rfl⟩ := okWide_slice ht hv
  obtain ⟨fuel, hx⟩ := h
  rcases Go.Deep.open_slice ht hx with ⟨hcs, _⟩ | ⟨x, l, c, m, n, D, Pl, hcs, hb, hl, hm, hmm, _, hel⟩
  · simp [Value.cells] at hcs
    obtain ⟨rfl, rfl, rfl⟩ := hcs
    exact ⟨none, 0, [], rfl, Nat.le_refl _, Nat.zero_le _, ⟨by simp, .inl rfl⟩⟩
  · simp [Value.cells] at hcs
    obtain ⟨rfl, rfl, rfl⟩ := hcs
    have hle : len ≤ m := by rw [hmm]; split <;> omega
    obtain ⟨R, hR⟩ := Go.Deep.choose_lt (α := List Value) (n := len) (p := fun i cs' => FlatS ks cs' ∧ ∀ j u, cs'[j]? = some u → w.cell? ((x.add (i * ks.length)).add j) = some u) (fun i hi => by
      obtain ⟨cs', h1, h2⟩ := hel i (by omega)
      have hfl := flats_of_trod 8 e ks n cs' _ hf h2
      refine ⟨cs', hfl, fun j u hu => ?_⟩
      rw [hc] at h1
      obtain ⟨_, h3, h4⟩ := World.cells?_some h1
      have hj : j < ks.length := by
        rcases Nat.lt_or_ge j cs'.length with k | k
        · omega
        · rw [List.getElem?_eq_none k] at hu; simp at hu
      rw [h4 j hj]
      exact hu)
    have hlen : ((List.range len).map R).length = len := by simp
    refine ⟨some x, cap, (List.range len).map R, by rw [hlen], by rw [hlen]; exact hl, hm, ⟨fun r' hr' => ?_, ?_⟩⟩
    · simp at hr'
      obtain ⟨i, hi, rfl⟩ := hr'
      exact (hR i hi).1
    · by_cases h0 : len = 0
      · subst h0; exact .inl rfl
      · obtain ⟨b, off, spot⟩ := x
        have hcell0 : ∃ u, w.cell? (((⟨b, off, spot⟩ : Addr).add (0 * ks.length)).add 0) = some u := by
          have h1 := hR 0 (by omega)
          have h2 := h1.1.length
          exact ⟨(R 0)[0]'(by omega), h1.2 0 _ (by simp)⟩
        obtain ⟨u, hu⟩ := hcell0
        have hspot : spot = none := by simpa [Addr.add] using World.cell?_spot hu
        subst hspot
        refine .inr ⟨b, off, rfl, cell_lt (by rw [addr_add] at hu; exact hu), fun i hi j v hv => ?_⟩
        have hi' : i < len := by simpa using hi
        have h1 := (hR i hi').2 j v (by simpa [List.getD, hi'] using hv)
        rwa [addr_add] at h1
end
end Go.Proofs.Ytecpmffmmiogfab
