/- An object of the heap by its cells, and how it is kept and written; tables of flat rows that came in. -/
import Derived.Test.YtfejdbmamaggpaaDoorBase
import Derived.Deep.Slices
namespace Go.Proofs.YtfejdbmamaggpaaDoor
open Go.ChangeShapes Go.WideShapes Go.ChangeAt Go.RowKit
set_option linter.unusedVariables false

/-- Block b holds the cells cs (from the start on), and they may be written. -/
structure Held (b : Nat) (cs : List Value) (w : World) : Prop where
  lt : b < w.heap.size
  c : ∀ (i : Nat) (v : Value), cs[i]? = some v → w.cell? ⟨b, i, none⟩ = some v
  f : ∀ i : Nat, i < cs.length → w.frozen? ⟨b, i, none⟩ = false

theorem Held.below {b B : Nat} {cs : List Value} {w w' : World} (h : Held b cs w) (k : Below B w w') (hb : b < B) : Held b cs w' :=
  ⟨Nat.lt_of_lt_of_le h.lt k.size, fun i v hv => (k.cell (p := ⟨b, i, none⟩) hb).trans (h.c i v hv), fun i hi => (k.frozen (p := ⟨b, i, none⟩) hb).trans (h.f i hi)⟩
theorem Held.bel {b : Nat} {cs : List Value} {w w' : World} (h : Held b cs w) (k : Below w.heap.size w w') : Held b cs w' := h.below k h.lt
theorem Held.only {b b' : Nat} {cs : List Value} {w w' : World} (h : Held b cs w) (k : Only b' w w') (hb : b ≠ b') : Held b cs w' :=
  ⟨by rw [k.size]; exact h.lt, fun i v hv => (k.cell (p := ⟨b, i, none⟩) hb).trans (h.c i v hv), fun i hi => (k.frozen (p := ⟨b, i, none⟩) hb).trans (h.f i hi)⟩
theorem Held.drew {b : Nat} {cs : List Value} {w : World} (h : Held b cs w) : Held b cs w.drew := ⟨h.lt, h.c, h.f⟩
theorem Held.drewN {b : Nat} {cs : List Value} {w : World} (h : Held b cs w) (n : Nat) : Held b cs (w.drewN n) := ⟨h.lt, h.c, h.f⟩
theorem Held.alloc {b : Nat} {cs : List Value} {w : World} (h : Held b cs w) (x : Obj) : Held b cs (w.alloc x) := h.bel ((Below.refl _ _).alloc (Nat.le_refl _) x)
theorem Held.set {b : Nat} {cs : List Value} {w : World} (h : Held b cs w) (i : Nat) (v : Value) (hi : i < cs.length) : Held b (cs.set i v) (w.setCell ⟨b, i, none⟩ v) := by
  have h0 : w.cell? ⟨b, i, none⟩ = some (cs[i]'hi) := h.c i _ (by simp)
  refine ⟨by simpa using h.lt, fun j u hu => ?_, fun j hj => ?_⟩
  · by_cases e : j = i
    · subst e
      have : u = v := by simp [hi] at hu; exact hu.symm
      subst this
      exact World.cell?_setCell_same w _ _ h0
    · rw [List.getElem?_set_ne (by omega)] at hu
      have := World.cell?_setCell_other w ⟨b, i, none⟩ ⟨b, j, none⟩ v (fun he => e (by injection he with _ h2 _; exact h2.symm))
      rw [this]
      exact h.c j u hu
  · have := h.f j (by simpa using hj)
    simpa using this
theorem Held.as {b : Nat} {cs : List Value} {w w' : World} (h : Held b cs w) (e : w'.heap = w.heap) : Held b cs w' := by
  have e1 : ∀ p, w'.cell? p = w.cell? p := fun p => World.cell?_of_block (by rw [e])
  have e2 : ∀ p, w'.frozen? p = w.frozen? p := fun p => World.frozen?_of_block (by rw [e])
  exact ⟨by rw [e]; exact h.lt, fun i v hv => (e1 _).trans (h.c i v hv), fun i hi => (e2 _).trans (h.f i hi)⟩
theorem Only.as {b : Nat} {w v v' : World} (h : Only b w v) (e1 : v'.os = v.os) (e2 : v'.tape = v.tape) (e3 : v'.output = v.output) (e4 : v'.heap = v.heap) : Only b w v' :=
  ⟨e1.trans h.os, e2.trans h.tape, e3.trans h.output, by rw [e4]; exact h.size, fun k hk => by rw [e4]; exact h.block k hk⟩
theorem Held.one {b : Nat} {cs : List Value} {w : World} (h : Held b cs w) (i : Nat) {v : Value} (hv : cs[i]? = some v) : w.cell? ⟨b, i, none⟩ = some v ∧ w.frozen? ⟨b, i, none⟩ = false :=
  ⟨h.c i v hv, h.f i (by rcases Nat.lt_or_ge i cs.length with k | k; exact k; simp [List.getElem?_eq_none k] at hv)⟩

/-- A table that came in as a slice: rows of flat cells (kinds ks), one behind the other. -/
structure Tab (ks : List (Option IntKind)) (w : World) (a : Option Addr) (rows : List (List Value)) : Prop where
  flat : ∀ r ∈ rows, FlatC ks r
  cells : rows = [] ∨ ∃ b off, a = some ⟨b, off, none⟩ ∧ b < w.heap.size ∧ ∀ i, i < rows.length → ∀ j v, (rows.getD i [])[j]? = some v → w.cell? ⟨b, off + i * ks.length + j, none⟩ = some v

theorem Tab.below {ks : List (Option IntKind)} {w w' : World} {a : Option Addr} {rows : List (List Value)} (h : Tab ks w a rows) (hb : Below w.heap.size w w') : Tab ks w' a rows := by
  refine ⟨h.flat, ?_⟩
  rcases h.cells with h0 | ⟨b, off, e, hlt, hc⟩
  · exact .inl h0
  · exact .inr ⟨b, off, e, Nat.lt_of_lt_of_le hlt hb.size, fun i hi j v hv => (hb.cell (p := ⟨b, off + i * ks.length + j, none⟩) hlt).trans (hc i hi j v hv)⟩

theorem Tab.at {ks : List (Option IntKind)} {w : World} {a : Option Addr} {rows : List (List Value)} (h : Tab ks w a rows) {i : Nat} (hi : i < rows.length) :
    ∃ b off r, a = some ⟨b, off, none⟩ ∧ b < w.heap.size ∧ rows.getD i [] = r ∧ FlatC ks r ∧ ∀ j v, r[j]? = some v → w.cell? ⟨b, off + i * ks.length + j, none⟩ = some v := by
  rcases h.cells with h0 | ⟨b, off, e, hlt, hc⟩
  · rw [h0] at hi; simp at hi
  · refine ⟨b, off, _, e, hlt, rfl, h.flat _ ?_, hc i hi⟩
    simp [List.getD, hi]

theorem rows_snoc {α : Type} (d : α) {l : List α} {k : Nat} (h : k < l.length) : l.take (k + 1) = l.take k ++ [l.getD k d] := by
  rw [List.take_succ_eq_append_getElem h]; simp [List.getD, h]

theorem addr_add (b off i j : Nat) : ((⟨b, off, none⟩ : Addr).add i).add j = ⟨b, off + i + j, none⟩ := by
  have e : ∀ o k : Nat, (⟨b, o, none⟩ : Addr).add k = ⟨b, o + k, none⟩ := fun o k => by
    unfold Addr.add; split
    · subst_vars; rfl
    · rfl
  rw [e, e]

section
variable {H : Type} {enc : TypeId × Value → H} {P : Program} {w : World} {base : Nat} {spare : Nat → Bool} {held : Bool}

theorem open_tab {r : Reach} {b0 : Nat} {t e : TypeId} {v : Value} {d : DataW H} {p : List MemPlace} (ks : List (Option IntKind)) (ht : P.underlying t = some (.slice e)) (hf : Go.Proofs.YtfejdbmamaggpaaDoor.flat P 8 e = some ks) (hc : P.cellsOf e = ks.length) (hk : 0 < ks.length)
    (hv : Value.okWide P w r b0 t v) (h : DataW.Trod enc P w base spare held t v d p) : ∃ (a : Option Addr) (cap : Nat) (rows : List (List Value)), v = .slice a rows.length cap ∧ rows.length ≤ cap ∧ cap ≤ maxLen ∧ Tab ks w a rows := by
  obtain ⟨a, len, cap, rfl⟩ := okWide_slice ht hv
  obtain ⟨fuel, hx⟩ := h
  rcases Go.Deep.open_slice ht hx with ⟨hcs, _⟩ | ⟨x, l, c, m, n, D, Pl, hcs, hb, hl, hm, hmm, _, hel⟩
  · simp [Value.cells] at hcs
    obtain ⟨rfl, rfl, rfl⟩ := hcs
    exact ⟨none, 0, [], rfl, Nat.le_refl _, Nat.zero_le _, ⟨by simp, .inl rfl⟩⟩
  · simp [Value.cells] at hcs
    obtain ⟨rfl, rfl, rfl⟩ := hcs
    have hle : len ≤ m := by rw [hmm]; split <;> omega
    obtain ⟨R, hR⟩ := Go.Deep.choose_lt (α := List Value) (n := len) (p := fun i cs' => FlatC ks cs' ∧ ∀ j u, cs'[j]? = some u → w.cell? ((x.add (i * ks.length)).add j) = some u) (fun i hi => by
      obtain ⟨cs', h1, h2⟩ := hel i (by omega)
      have hfl := flat_of_trod 8 e ks n cs' _ hf h2
      refine ⟨cs', hfl, fun j u hu => ?_⟩
      rw [hc] at h1
      obtain ⟨_, h3, h4⟩ := World.cells?_some h1
      have hj : j < ks.length := by
        rcases Nat.lt_or_ge j cs'.length with k | k
        · omega
        · rw [List.getElem?_eq_none k] at hu; simp at hu
      rw [h4 j hj]
      exact hu)
    have hlen : ((List.range len).map R).length = len := by simp
    refine ⟨some x, cap, (List.range len).map R, by rw [hlen], by rw [hlen]; exact hl, hm, ⟨fun r' hr' => ?_, ?_⟩⟩
    · simp at hr'
      obtain ⟨i, hi, rfl⟩ := hr'
      exact (hR i hi).1
    · by_cases h0 : len = 0
      · subst h0; exact .inl rfl
      · obtain ⟨b, off, spot⟩ := x
        have hcell0 : ∃ u, w.cell? (((⟨b, off, spot⟩ : Addr).add (0 * ks.length)).add 0) = some u := by
          have h1 := hR 0 (by omega)
          have h2 := h1.1.length
          exact ⟨(R 0)[0]'(by omega), h1.2 0 _ (by simp)⟩
        obtain ⟨u, hu⟩ := hcell0
        have hspot : spot = none := by simpa [Addr.add] using World.cell?_spot hu
        subst hspot
        refine .inr ⟨b, off, rfl, cell_lt (by rw [addr_add] at hu; exact hu), fun i hi j v hv => ?_⟩
        have hi' : i < len := by simpa using hi
        have h1 := (hR i hi').2 j v (by simpa [List.getD, hi'] using hv)
        rwa [addr_add] at h1
end
end Go.Proofs.YtfejdbmamaggpaaDoor
