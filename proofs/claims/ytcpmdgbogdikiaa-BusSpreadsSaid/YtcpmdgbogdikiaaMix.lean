/- How a struct or array of numbers, bools, strings and rows of numbers (nested as it may be) that came in reads: as its cells, written out. -/
import Derived.Test.YtcpmdgbogdikiaaBase
namespace Go.Proofs.Ytcpmdgbogdikiaa
open Go.ChangeShapes Go.WideShapes Go.ChangeAt Go.RowKit
set_option linter.unusedVariables false

/-- What one cell of such a struct is. -/
inductive MK where
  | num (k : IntKind)
  | boo
  | row (k : IntKind)

/-- The cells are of these kinds. -/
def MixC (w : World) : List MK → List Value → Prop
  | [], cs => cs = []
  | .num k :: ks, cs => ∃ n r, cs = .int k n :: r ∧ (Lit.int k n).wf = true ∧ MixC w ks r
  | .boo :: ks, cs => ∃ b r, cs = .bool b :: r ∧ MixC w ks r
  | .row k :: ks, cs => ∃ (a : Option Addr) (l : List Int) (cap : Nat) (r : List Value), cs = .slice a l.length cap :: r ∧ l.length ≤ cap ∧ cap ≤ maxLen ∧ RowIs k w a l ∧ (∀ n ∈ l, (Lit.int k n).wf = true) ∧ MixC w ks r

theorem MixC.length {w : World} : ∀ {ks : List MK} {cs : List Value}, MixC w ks cs → cs.length = ks.length
  | [], _, h => by have h : _ = _ := h; subst h; rfl
  | .num k :: ks, _, ⟨n, r, e, _, h⟩ => by subst e; simp [MixC.length h]
  | .boo :: ks, _, ⟨b, r, e, h⟩ => by subst e; simp [MixC.length h]
  | .row k :: ks, _, ⟨a, l, cap, r, e, _, _, _, _, h⟩ => by subst e; simp [MixC.length h]

theorem MixC.append {w : World} : ∀ {ks js : List MK} {cs ds : List Value}, MixC w ks cs → MixC w js ds → MixC w (ks ++ js) (cs ++ ds)
  | [], _, _, _, h, g => by have h : _ = _ := h; subst h; exact g
  | .num k :: ks, _, _, _, ⟨n, r, e, w, h⟩, g => by subst e; exact ⟨n, _, rfl, w, h.append g⟩
  | .boo :: ks, _, _, _, ⟨b, r, e, h⟩, g => by subst e; exact ⟨b, _, rfl, h.append g⟩
  | .row k :: ks, _, _, _, ⟨a, l, cap, r, e, h1, h2, h3, h4, h⟩, g => by subst e; exact ⟨a, l, cap, _, rfl, h1, h2, h3, h4, h.append g⟩

/-- The kinds of a row of fields that lie one behind the other from 'off' on. -/
def mixFields (P : Program) (fl : TypeId → Option (List MK)) : Nat → List Field → Option (List MK)
  | _, [] => some []
  | off, f :: fs => match fl f.type with
    | none => none
    | some ks => if f.offset = off ∧ P.cellsOf f.type = ks.length then (mixFields P fl (off + ks.length) fs).map (ks ++ ·) else none

def mixT (P : Program) : Nat → TypeId → Option (List MK)
  | 0, _ => none
  | n + 1, t => match P.underlying t with
    | some (.int k) => some [.num k]
    | some .bool => some [.boo]
    | some (.slice e) => match P.underlying e with
      | some (.int k) => if P.cellsOf e = 1 then some [.row k] else none
      | _ => none
    | some (.struct fs) => (mixFields P (mixT P n) 0 fs.toList).bind fun ks => if P.cellsOf t = ks.length then some ks else none
    | some (.array m e) => (mixT P n e).bind fun ks => if P.cellsOf e = ks.length ∧ P.cellsOf t = m * ks.length then some ((List.replicate m ks).flatten) else none
    | _ => none

section
variable {H : Type} {enc : TypeId × Value → H} {P : Program} {w : World} {base : Nat} {spare : Nat → Bool} {held : Bool}

theorem mix_fields (fl : TypeId → Option (List MK)) (cs : List Value) : ∀ (fs : List Field) (off : Nat) (ks : List MK), mixFields P fl off fs = some ks →
    (∀ f ∈ fs, ∀ js, fl f.type = some js → MixC w js ((cs.drop f.offset).take (P.cellsOf f.type))) → off + ks.length = cs.length → MixC w ks (cs.drop off)
  | [], off, ks, h, _, hl => by
    simp [mixFields] at h; subst h
    simp at hl
    show cs.drop off = []
    simp [hl]
  | f :: fs, off, ks, h, hf, hl => by
    unfold mixFields at h
    cases e : fl f.type with
    | none => simp [e] at h
    | some js =>
      simp only [e] at h
      split at h
      · rename_i hc
        obtain ⟨rfl, hcells⟩ := hc
        simp only [Option.map_eq_some_iff] at h
        obtain ⟨rest, hr, rfl⟩ := h
        have h1 := hf f (by simp) js e
        rw [hcells] at h1
        have h2 := mix_fields fl cs fs _ rest hr (fun g hg => hf g (by simp [hg])) (by simp at hl; omega)
        have := h1.append h2
        rwa [← List.drop_drop, List.take_append_drop] at this
      · simp at h

theorem mix_rows (ks : List MK) (cs : List Value) : ∀ (m off : Nat), (∀ i, i < m → MixC w ks ((cs.drop (off + i * ks.length)).take ks.length)) → off + m * ks.length = cs.length → MixC w ((List.replicate m ks).flatten) (cs.drop off)
  | 0, off, _, hl => by
    simp at hl
    show cs.drop off = []
    simp [hl]
  | m + 1, off, h, hl => by
    rw [List.replicate_succ, List.flatten_cons]
    have h1 := h 0 (by omega)
    simp at h1
    have h2 := mix_rows ks cs m (off + ks.length) (fun i hi => by
      have := h (i + 1) (by omega)
      rwa [Nat.add_mul, Nat.one_mul, Nat.add_comm (i * ks.length), ← Nat.add_assoc] at this) (by rw [Nat.add_mul] at hl; omega)
    have := h1.append h2
    rwa [← List.drop_drop, List.take_append_drop] at this

theorem mix_of_trod : ∀ (n : Nat) (t : TypeId) (ks : List MK) (fuel : Nat) (cs : List Value) (x : DataW H × List MemPlace), mixT P n t = some ks →
    DataW.trod enc P w base spare held fuel t cs = some x → MixC w ks cs
  | 0, _, _, _, _, _, h, _ => by simp [mixT] at h
  | n + 1, t, ks, fuel, cs, x, h, ht => by
    unfold mixT at h
    split at h
    · rename_i k hu
      simp at h; subst h
      obtain ⟨m, rfl, _, hw⟩ := DataW.trod_int hu ht
      exact ⟨m, [], rfl, hw, rfl⟩
    · rename_i hu
      simp at h; subst h
      obtain ⟨b, rfl, _⟩ := DataW.trod_bool hu ht
      exact ⟨b, [], rfl, rfl⟩
    · rename_i e hu
      split at h
      · rename_i k he
        split at h
        · rename_i hc
          simp at h; subst h
          rcases open_ints hu he hc ht with ⟨hcs, _⟩ | ⟨a, len, cap, zs, hcs, _, hl, hm, hz, _, hcell, hwz⟩
          · subst hcs
            exact ⟨none, [], 0, [], rfl, Nat.le_refl _, Nat.zero_le _, .inl rfl, by simp, rfl⟩
          · subst hcs
            have hle : len ≤ zs.length := by rw [hz]; split <;> omega
            have e1 : (zs.take len).length = len := by simp; omega
            refine ⟨some a, zs.take len, cap, [], by rw [e1], by omega, hm, ?_, fun n hn => hwz n (List.mem_of_mem_take hn), rfl⟩
            by_cases h0 : len = 0
            · subst h0; exact .inl rfl
            · obtain ⟨b, off, spot⟩ := a
              have hc0 := hcell 0 (by omega)
              have hspot : spot = none := by simpa [Addr.add] using World.cell?_spot hc0
              subst hspot
              refine .inr ⟨b, off, rfl, cell_lt (by simpa [Addr.add] using hc0), fun i hi => ?_⟩
              have hi' : i < len := by omega
              have h1 := hcell i (by omega)
              have e2 : (⟨b, off, none⟩ : Addr).add i = ⟨b, off + i, none⟩ := by
                unfold Addr.add; split
                · subst_vars; rfl
                · rfl
              rw [e2] at h1
              rw [h1]
              simp [List.getD, hi']
        · simp at h
      · simp at h
    · rename_i fs hu
      simp only [Option.bind_eq_some_iff] at h
      obtain ⟨js, hj, h⟩ := h
      split at h
      · rename_i hc
        simp at h; subst h
        obtain ⟨xs, m, rfl, _, hl, hxl, hx⟩ := DataW.trod_struct hu ht
        have := mix_fields (P := P) (w := w) (mixT P n) cs fs.toList 0 js hj (fun f hf js' hjs => by
          obtain ⟨i, hi⟩ := List.getElem?_of_mem hf
          have hi' : fs[i]? = some f := by simpa using hi
          have hlt : i < fs.size := by
            have := List.getElem?_eq_some_iff.1 hi
            obtain ⟨h1, _⟩ := this
            simpa using h1
          have h2 := hx i f hi'
          have : ∃ y, xs[i]? = some y := ⟨xs[i]'(by omega), by simp [hxl, hlt]⟩
          obtain ⟨y, hy⟩ := this
          rw [hy] at h2
          exact mix_of_trod n _ js' m _ y hjs h2) (by omega)
        simpa using this
      · simp at h
    · rename_i m e hu
      simp only [Option.bind_eq_some_iff] at h
      obtain ⟨js, hj, h⟩ := h
      split at h
      · rename_i hc
        obtain ⟨hc1, hc2⟩ := hc
        simp at h; subst h
        obtain ⟨xs, q, rfl, _, hl, hxl, hx⟩ := DataW.trod_array hu ht
        have := mix_rows (w := w) js cs m 0 (fun i hi => by
          have h2 := hx i hi
          have : ∃ y, xs[i]? = some y := ⟨xs[i]'(by omega), by simp [hxl, hi]⟩
          obtain ⟨y, hy⟩ := this
          rw [hy, hc1] at h2
          rw [Nat.zero_add]
          exact mix_of_trod n _ js q _ y hj h2) (by omega)
        simpa using this
      · simp at h
    · simp at h

/-- A struct or an array that came in: its cells, written out. -/
theorem open_mix {r : Reach} {b0 : Nat} {t : TypeId} {v : Value} {d : DataW H} {p : List MemPlace} (ks : List MK) (ha : (match P.underlying t with | some (.struct _) => true | some (.array _ _) => true | _ => false) = true) (hf : mixT P 8 t = some ks)
    (hv : Value.okWide P w r b0 t v) (h : DataW.Trod enc P w base spare held t v d p) : ∃ cs : List Value, v = .agg cs.toArray ∧ MixC w ks cs := by
  obtain ⟨fuel, hx⟩ := h
  have : ∃ cs, v = .agg cs := by
    unfold Value.okWide at hv
    split at ha
    · rename_i hu; simp only [hu] at hv; obtain ⟨cs, h1, _⟩ := hv; exact ⟨cs, h1⟩
    · rename_i hu; simp only [hu] at hv; obtain ⟨cs, h1, _⟩ := hv; exact ⟨cs, h1⟩
    · simp at ha
  obtain ⟨cs, rfl⟩ := this
  exact ⟨cs.toList, by simp, mix_of_trod 8 t ks fuel _ _ hf (by simpa [Value.cells] using hx)⟩
end
end Go.Proofs.Ytcpmdgbogdikiaa
