/- MgAg: Flat Base Obj New Beside. -/
import Derived.WalkKit
import Derived.ProofKit
import Derived.OpenShut
import Derived.Test.YtecpmffmmiogfaaGreatRows
import Derived.ShutString
import Derived.RegionCalls
import Derived.Deep.RegionWith
import Derived.Deep.RegionHeld3
import Derived.StillTailTactics
import Derived.Deep.QuietTactic
import Derived.BigQuiet
import Derived.Carry
import Derived.Lib.Hide
import Derived.Lib.SmallJoins
import Derived.IntWalk
import Derived.Laws.LoneSync
import Derived.Laws.NewBlocks
import Derived.Deep.Slices
namespace Go.Proofs.YtecpmffmmiogfaaGreat
open Go.ChangeShapes Go.WideShapes Go.ChangeAt Go.RowKit
set_option linter.unusedVariables false

/-- The cells are numbers (of the kind that is listed) or bools ('none'). -/
def FlatC : List (Option IntKind) → List Value → Prop
  | [], cs => cs = []
  | some k :: ks, cs => ∃ n r, cs = .int k n :: r ∧ (Lit.int k n).wf = true ∧ FlatC ks r
  | none :: ks, cs => ∃ b r, cs = .bool b :: r ∧ FlatC ks r

theorem FlatC.length : ∀ {ks : List (Option IntKind)} {cs : List Value}, FlatC ks cs → cs.length = ks.length
  | [], _, h => by have h : _ = _ := h; subst h; rfl
  | some k :: ks, _, ⟨n, r, e, _, h⟩ => by subst e; simp [FlatC.length h]
  | none :: ks, _, ⟨b, r, e, h⟩ => by subst e; simp [FlatC.length h]

theorem FlatC.append : ∀ {ks js : List (Option IntKind)} {cs ds : List Value}, FlatC ks cs → FlatC js ds → FlatC (ks ++ js) (cs ++ ds)
  | [], _, _, _, h, g => by have h : _ = _ := h; subst h; exact g
  | some k :: ks, _, _, _, ⟨n, r, e, w, h⟩, g => by subst e; exact ⟨n, _, rfl, w, h.append g⟩
  | none :: ks, _, _, _, ⟨b, r, e, h⟩, g => by subst e; exact ⟨b, _, rfl, h.append g⟩

/-- The kinds of a row of fields that lie one behind the other from 'off' on. -/
def flatFields (P : Program) (fl : TypeId → Option (List (Option IntKind))) : Nat → List Field → Option (List (Option IntKind))
  | _, [] => some []
  | off, f :: fs => match fl f.type with
    | none => none
    | some ks => if f.offset = off ∧ P.cellsOf f.type = ks.length then (flatFields P fl (off + ks.length) fs).map (ks ++ ·) else none

def flat (P : Program) : Nat → TypeId → Option (List (Option IntKind))
  | 0, _ => none
  | n + 1, t => match P.underlying t with
    | some (.int k) => some [some k]
    | some .bool => some [none]
    | some (.struct fs) => (flatFields P (flat P n) 0 fs.toList).bind fun ks => if P.cellsOf t = ks.length then some ks else none
    | some (.array m e) => (flat P n e).bind fun ks => if P.cellsOf e = ks.length ∧ P.cellsOf t = m * ks.length then some ((List.replicate m ks).flatten) else none
    | _ => none

section
variable {H : Type} {enc : TypeId × Value → H} {P : Program} {w : World} {base : Nat} {spare : Nat → Bool} {held : Bool}

theorem flat_fields (fl : TypeId → Option (List (Option IntKind))) (cs : List Value) : ∀ (fs : List Field) (off : Nat) (ks : List (Option IntKind)), flatFields P fl off fs = some ks →
    (∀ f ∈ fs, ∀ js, fl f.type = some js → FlatC js ((cs.drop f.offset).take (P.cellsOf f.type))) → off + ks.length = cs.length → FlatC ks (cs.drop off)
  | [], off, ks, h, _, hl => by
    simp [flatFields] at h; subst h
    simp at hl
    show cs.drop off = []
    simp [hl]
  | f :: fs, off, ks, h, hf, hl => by
    unfold flatFields at h
    cases e : fl f.type with
    | none => simp [e] at h
    | some js =>
      simp only [e] at h
      split at h
      · rename_i hc
        obtain ⟨rfl, hcells⟩ := hc
        simp only [Option.map_eq_some_iff] at h
        obtain ⟨rest, hr, rfl⟩ := h
        have h1 := hf f (by simp) js e
        rw [hcells] at h1
        have h2 := flat_fields fl cs fs _ rest hr (fun g hg => hf g (by simp [hg])) (by simp at hl; omega)
        have := h1.append h2
        rwa [← List.drop_drop, List.take_append_drop] at this
      · simp at h

theorem flat_rows (ks : List (Option IntKind)) (cs : List Value) : ∀ (m off : Nat), (∀ i, i < m → FlatC ks ((cs.drop (off + i * ks.length)).take ks.length)) → off + m * ks.length = cs.length → FlatC ((List.replicate m ks).flatten) (cs.drop off)
  | 0, off, _, hl => by
    simp at hl
    show cs.drop off = []
    simp [hl]
  | m + 1, off, h, hl => by
    rw [List.replicate_succ, List.flatten_cons]
    have h1 := h 0 (by omega)
    simp at h1
    have h2 := flat_rows ks cs m (off + ks.length) (fun i hi => by
      have := h (i + 1) (by omega)
      rwa [Nat.add_mul, Nat.one_mul, Nat.add_comm (i * ks.length), ← Nat.add_assoc] at this) (by rw [Nat.add_mul] at hl; omega)
    have := h1.append h2
    rwa [← List.drop_drop, List.take_append_drop] at this

theorem flat_of_trod : ∀ (n : Nat) (t : TypeId) (ks : List (Option IntKind)) (fuel : Nat) (cs : List Value) (x : DataW H × List MemPlace), flat P n t = some ks →
    DataW.trod enc P w base spare held fuel t cs = some x → FlatC ks cs
  | 0, _, _, _, _, _, h, _ => by simp [flat] at h
  | n + 1, t, ks, fuel, cs, x, h, ht => by
    unfold flat at h
    split at h
    · rename_i k hu
      simp at h; subst h
      obtain ⟨m, rfl, _, hw⟩ := DataW.trod_int hu ht
      exact ⟨m, [], rfl, hw, rfl⟩
    · rename_i hu
      simp at h; subst h
      obtain ⟨b, rfl, _⟩ := DataW.trod_bool hu ht
      exact ⟨b, [], rfl, rfl⟩
    · rename_i fs hu
      simp only [Option.bind_eq_some_iff] at h
      obtain ⟨js, hj, h⟩ := h
      split at h
      · rename_i hc
        simp at h; subst h
        obtain ⟨xs, m, rfl, _, hl, hxl, hx⟩ := DataW.trod_struct hu ht
        have := flat_fields (P := P) (flat P n) cs fs.toList 0 js hj (fun f hf js' hjs => by
          obtain ⟨i, hi⟩ := List.getElem?_of_mem hf
          have hi' : fs[i]? = some f := by simpa using hi
          have hlt : i < fs.size := by
            have := List.getElem?_eq_some_iff.1 hi
            obtain ⟨h1, _⟩ := this
            simpa using h1
          have h2 := hx i f hi'
          have : ∃ y, xs[i]? = some y := ⟨xs[i]'(by omega), by simp [hxl, hlt]⟩
          obtain ⟨y, hy⟩ := this
          rw [hy] at h2
          exact flat_of_trod n _ js' m _ y hjs h2) (by omega)
        simpa using this
      · simp at h
    · rename_i m e hu
      simp only [Option.bind_eq_some_iff] at h
      obtain ⟨js, hj, h⟩ := h
      split at h
      · rename_i hc
        obtain ⟨hc1, hc2⟩ := hc
        simp at h; subst h
        obtain ⟨xs, q, rfl, _, hl, hxl, hx⟩ := DataW.trod_array hu ht
        have := flat_rows js cs m 0 (fun i hi => by
          have h2 := hx i hi
          have : ∃ y, xs[i]? = some y := ⟨xs[i]'(by omega), by simp [hxl, hi]⟩
          obtain ⟨y, hy⟩ := this
          rw [hy, hc1] at h2
          rw [Nat.zero_add]
          exact flat_of_trod n _ js q _ y hj h2) (by omega)
        simpa using this
      · simp at h
    · simp at h

/-- A struct or an array that came in: its cells, written out. -/
theorem open_flat {r : Reach} {b0 : Nat} {t : TypeId} {v : Value} {d : DataW H} {p : List MemPlace} (ks : List (Option IntKind)) (ha : (match P.underlying t with | some (.struct _) => true | some (.array _ _) => true | _ => false) = true) (hf : flat P 8 t = some ks)
    (hv : Value.okWide P w r b0 t v) (h : DataW.Trod enc P w base spare held t v d p) : ∃ cs : List Value, v = .agg cs.toArray ∧ FlatC ks cs := by
  obtain ⟨fuel, hx⟩ := h
  have : ∃ cs, v = .agg cs := by
    unfold Value.okWide at hv
    split at ha
    · rename_i hu; simp only [hu] at hv; obtain ⟨cs, h1, _⟩ := hv; exact ⟨cs, h1⟩
    · rename_i hu; simp only [hu] at hv; obtain ⟨cs, h1, _⟩ := hv; exact ⟨cs, h1⟩
    · simp at ha
  obtain ⟨cs, rfl⟩ := this
  exact ⟨cs.toList, by simp, flat_of_trod 8 t ks fuel _ _ hf (by simpa [Value.cells] using hx)⟩
end
end Go.Proofs.YtecpmffmmiogfaaGreat
namespace Go.Proofs.YtecpmffmmiogfaaGreat
open Go.ChangeShapes Go.WideShapes Go.ChangeAt Go.RowKit
set_option linter.unusedVariables false

theorem own : ownKnob Tryz.prog.godebug = none := by kernel_rfl
theorem laidOut : laidOutB Tryz.prog = true := by kernel_rfl

/-- Nothing but block b has changed. -/
structure Only (b : Nat) (w w' : World) : Prop where
  os : w'.os = w.os
  tape : w'.tape = w.tape
  output : w'.output = w.output
  size : w'.heap.size = w.heap.size
  block : ∀ k, k ≠ b → w'.heap[k]? = w.heap[k]?

theorem Only.refl (b : Nat) (w : World) : Only b w w := ⟨rfl, rfl, rfl, rfl, fun _ _ => rfl⟩
theorem Only.trans {b : Nat} {u v w : World} (h : Only b u v) (k : Only b v w) : Only b u w :=
  ⟨k.os.trans h.os, k.tape.trans h.tape, k.output.trans h.output, k.size.trans h.size, fun i hi => (k.block i hi).trans (h.block i hi)⟩
theorem Only.drew {b : Nat} {a w : World} (h : Only b a w) : Only b a w.drew := ⟨h.os, h.tape, h.output, h.size, h.block⟩
theorem Only.setCell {a w : World} {p : Addr} (h : Only p.block a w) (u : Value) : Only p.block a (w.setCell p u) :=
  ⟨h.os, h.tape, h.output, by simpa using h.size, fun k hk => (Below.heap_setCell w p u k hk).trans (h.block k hk)⟩
theorem Only.below {b B : Nat} {w w' : World} (h : Only b w w') (hB : B ≤ b) : Below B w w' :=
  ⟨h.os, h.tape, h.output, Nat.le_of_eq h.size.symm, fun k hk => h.block k (by omega)⟩
theorem Only.cell {b : Nat} {w w' : World} (h : Only b w w') {p : Addr} (hp : p.block ≠ b) : w'.cell? p = w.cell? p := World.cell?_of_block (w := w) (h.block p.block hp)
theorem Only.frozen {b : Nat} {w w' : World} (h : Only b w w') {p : Addr} (hp : p.block ≠ b) : w'.frozen? p = w.frozen? p := World.frozen?_of_block (w := w) (h.block p.block hp)

theorem bcell {W w1 : World} {B : Nat} (hb : Below B W w1) : (∀ b o, b < B → w1.cell? ⟨b, o, none⟩ = W.cell? ⟨b, o, none⟩) ∧ (∀ b o, b < B → w1.frozen? ⟨b, o, none⟩ = W.frozen? ⟨b, o, none⟩) :=
  ⟨fun b o h => hb.cell (p := ⟨b, o, none⟩) h, fun b o h => hb.frozen (p := ⟨b, o, none⟩) h⟩

theorem bc {B : Nat} {v w1 : World} (h : Below B v w1) {b o : Nat} (hb : b < B) : w1.cell? ⟨b, o, none⟩ = v.cell? ⟨b, o, none⟩ := h.cell (p := ⟨b, o, none⟩) hb
theorem bf {B : Nat} {v w1 : World} (h : Below B v w1) {b o : Nat} (hb : b < B) : w1.frozen? ⟨b, o, none⟩ = v.frozen? ⟨b, o, none⟩ := h.frozen (p := ⟨b, o, none⟩) hb

/-- .. told the other way round. -/
theorem stl {P : Program} {f : FuncId} {args : Array Value} {W : World} {v : Value} (h : Calls P f args W fun e w' => e = .returned v ∧ W = w') :
    Calls P f args W fun e w' => e = .returned v ∧ w' = W := h.mono fun _ _ ⟨he, hm⟩ => ⟨he, hm.symm⟩
/-- A callee that leaves the world alone, in a region that has drawn. -/
theorem quiet_as {P : Program} {f : FuncId} {args : Array Value} {W : World} {v : Value} {g : Nat → World} (n : Nat) (hg : g n = W) (h : Calls P f args W fun e w' => e = .returned v ∧ W = w') :
    Calls P f args W fun e w'' => e = .returned v ∧ ∃ m, w'' = g m := h.mono fun _ _ ⟨he, hm⟩ => ⟨he, n, by rw [← hm, hg]⟩
theorem below_drewN {B : Nat} {a w : World} (h : Below B a w) (n : Nat) : Below B a (w.drewN n) := ⟨h.os, h.tape, h.output, h.size, h.block⟩

/-- A contract's 'Below', told from an elder world on. -/
theorem anch {P : Program} {f : FuncId} {args : Array Value} {W v : World} {φ : Ending → Prop} (h : Calls P f args W fun e w' => φ e ∧ Below W.heap.size W w') (hB : Below v.heap.size v W) : Calls P f args W fun e w' => φ e ∧ Below v.heap.size v w' :=
  h.mono fun _ _ ⟨a, b⟩ => ⟨a, hB.trans (b.mono hB.size)⟩

theorem ret_int {k : IntKind} {a b : Int} (h : a = b) : Ending.returned (.int k a) = .returned (.int k b) := by rw [h]
theorem ret_bool {a b : Bool} (h : a = b) : Ending.returned (.bool a) = .returned (.bool b) := by rw [h]
theorem ret_ib {k : IntKind} {a b : Int} {c d : Bool} (h : a = b) (g : c = d) : Ending.returned (.tuple #[.int k a, .bool c]) = .returned (.tuple #[.int k b, .bool d]) := by rw [h, g]
theorem ret_ii {k l : IntKind} {a b c d : Int} (h : a = b) (g : c = d) : Ending.returned (.tuple #[.int k a, .int l c]) = .returned (.tuple #[.int k b, .int l d]) := by rw [h, g]

theorem i64_bd {n : Int} (h : (Lit.int .i64 n).wf = true) : -9223372036854775808 ≤ n ∧ n ≤ 9223372036854775807 := by
  simp [Lit.wf, IntKind.min, IntKind.max, IntKind.signed, IntKind.bits] at h
  omega

/-- What a walk is told of a slice of integers that came in: it is nil; or it leads to a row of 'cap' cells, the numbers 'zs' (the first 'len' are its elements). -/
def IsRow (k : IntKind) (w : World) (a : Option Addr) (len cap : Nat) (zs : List Int) : Prop :=
  (a = none ∧ len = 0 ∧ cap = 0 ∧ zs = []) ∨
  ∃ x, a = some x ∧ len ≤ cap ∧ cap ≤ maxLen ∧ zs.length = cap ∧ (∀ i, i < zs.length → w.cell? (x.add i) = some (.int k (zs.getD i 0))) ∧ ∀ n ∈ zs, (Lit.int k n).wf = true

/-- A slice's elements in memory: none, or a row of cells that holds the list l. -/
def RowIs (k : IntKind) (w : World) (a : Option Addr) (l : List Int) : Prop :=
  l = [] ∨ ∃ b off, a = some ⟨b, off, none⟩ ∧ b < w.heap.size ∧ ∀ i, i < l.length → w.cell? ⟨b, off + i, none⟩ = some (.int k (l.getD i 0))

theorem cell_lt {w : World} {b o : Nat} {v : Value} (h : w.cell? ⟨b, o, none⟩ = some v) : b < w.heap.size := by
  by_cases hb : b < w.heap.size
  · exact hb
  · simp [World.cell?, hb] at h

theorem IsRow.row {k : IntKind} {w : World} {a : Option Addr} {len cap : Nat} {zs : List Int} (h : IsRow k w a len cap zs) :
    (zs.take len).length = len ∧ len ≤ cap ∧ cap ≤ maxLen ∧ RowIs k w a (zs.take len) ∧ ∀ n ∈ zs.take len, (Lit.int k n).wf = true := by
  rcases h with ⟨rfl, rfl, rfl, rfl⟩ | ⟨x, rfl, hl, hm, hz, hcell, hwz⟩
  · exact ⟨rfl, Nat.le_refl _, Nat.zero_le _, .inl rfl, by simp⟩
  · have e : (zs.take len).length = len := by simp; omega
    refine ⟨e, hl, hm, ?_, fun n hn => hwz n (List.mem_of_mem_take hn)⟩
    by_cases h0 : len = 0
    · subst h0; exact .inl rfl
    · obtain ⟨b, off, spot⟩ := x
      have hc := hcell 0 (by omega)
      have hspot : spot = none := by simpa [Addr.add] using World.cell?_spot hc
      subst hspot
      refine .inr ⟨b, off, rfl, cell_lt (by simpa [Addr.add] using hc), fun i hi => ?_⟩
      have := hcell i (by omega)
      have e2 : (⟨b, off, none⟩ : Addr).add i = ⟨b, off + i, none⟩ := by
        unfold Addr.add; split
        · subst_vars; rfl
        · rfl
      rw [e2] at this
      rw [this]
      have hi' : i < len := by omega
      simp [List.getD, hi']

theorem RowIs.below {k : IntKind} {w w' : World} {a : Option Addr} {l : List Int} (h : RowIs k w a l) (hb : Below w.heap.size w w') : RowIs k w' a l := by
  rcases h with rfl | ⟨b, off, rfl, hlt, hc⟩
  · exact .inl rfl
  · exact .inr ⟨b, off, rfl, Nat.lt_of_lt_of_le hlt hb.size, fun i hi => (hb.cell (p := ⟨b, off + i, none⟩) hlt).trans (hc i hi)⟩

/-- Where the row is not empty it lies in an old block. -/
theorem RowIs.at {k : IntKind} {w : World} {a : Option Addr} {l : List Int} (h : RowIs k w a l) {i : Nat} (hi : i < l.length) :
    ∃ b off, a = some ⟨b, off, none⟩ ∧ b < w.heap.size ∧ w.cell? ⟨b, off + i, none⟩ = some (.int k (l.getD i 0)) := by
  rcases h with rfl | ⟨b, off, rfl, hlt, hc⟩
  · simp at hi
  · exact ⟨b, off, rfl, hlt, hc i hi⟩

theorem take_snoc {l : List Int} {k : Nat} (h : k < l.length) : l.take (k + 1) = l.take k ++ [l.getD k 0] := by
  rw [List.take_succ_eq_append_getElem h]; simp [List.getD, h]
end Go.Proofs.YtecpmffmmiogfaaGreat
namespace Go.Proofs.YtecpmffmmiogfaaGreat
open Go.ChangeShapes Go.WideShapes Go.ChangeAt Go.RowKit
set_option linter.unusedVariables false

/-- Block b holds the cells cs (from the start on), and they may be written. -/
structure Held (b : Nat) (cs : List Value) (w : World) : Prop where
  lt : b < w.heap.size
  c : ∀ (i : Nat) (v : Value), cs[i]? = some v → w.cell? ⟨b, i, none⟩ = some v
  f : ∀ i : Nat, i < cs.length → w.frozen? ⟨b, i, none⟩ = false

theorem Held.below {b B : Nat} {cs : List Value} {w w' : World} (h : Held b cs w) (k : Below B w w') (hb : b < B) : Held b cs w' :=
  ⟨Nat.lt_of_lt_of_le h.lt k.size, fun i v hv => (k.cell (p := ⟨b, i, none⟩) hb).trans (h.c i v hv), fun i hi => (k.frozen (p := ⟨b, i, none⟩) hb).trans (h.f i hi)⟩
theorem Held.bel {b : Nat} {cs : List Value} {w w' : World} (h : Held b cs w) (k : Below w.heap.size w w') : Held b cs w' := h.below k h.lt
theorem Held.only {b b' : Nat} {cs : List Value} {w w' : World} (h : Held b cs w) (k : Only b' w w') (hb : b ≠ b') : Held b cs w' :=
  ⟨by rw [k.size]; exact h.lt, fun i v hv => (k.cell (p := ⟨b, i, none⟩) hb).trans (h.c i v hv), fun i hi => (k.frozen (p := ⟨b, i, none⟩) hb).trans (h.f i hi)⟩
theorem Held.drew {b : Nat} {cs : List Value} {w : World} (h : Held b cs w) : Held b cs w.drew := ⟨h.lt, h.c, h.f⟩
theorem Held.drewN {b : Nat} {cs : List Value} {w : World} (h : Held b cs w) (n : Nat) : Held b cs (w.drewN n) := ⟨h.lt, h.c, h.f⟩
theorem Held.alloc {b : Nat} {cs : List Value} {w : World} (h : Held b cs w) (x : Obj) : Held b cs (w.alloc x) := h.bel ((Below.refl _ _).alloc (Nat.le_refl _) x)
theorem Held.set {b : Nat} {cs : List Value} {w : World} (h : Held b cs w) (i : Nat) (v : Value) (hi : i < cs.length) : Held b (cs.set i v) (w.setCell ⟨b, i, none⟩ v) := by
  have h0 : w.cell? ⟨b, i, none⟩ = some (cs[i]'hi) := h.c i _ (by simp)
  refine ⟨by simpa using h.lt, fun j u hu => ?_, fun j hj => ?_⟩
  · by_cases e : j = i
    · subst e
      have : u = v := by simp [hi] at hu; exact hu.symm
      subst this
      exact World.cell?_setCell_same w _ _ h0
    · rw [List.getElem?_set_ne (by omega)] at hu
      have := World.cell?_setCell_other w ⟨b, i, none⟩ ⟨b, j, none⟩ v (fun he => e (by injection he with _ h2 _; exact h2.symm))
      rw [this]
      exact h.c j u hu
  · have := h.f j (by simpa using hj)
    simpa using this
theorem Held.as {b : Nat} {cs : List Value} {w w' : World} (h : Held b cs w) (e : w'.heap = w.heap) : Held b cs w' := by
  have e1 : ∀ p, w'.cell? p = w.cell? p := fun p => World.cell?_of_block (by rw [e])
  have e2 : ∀ p, w'.frozen? p = w.frozen? p := fun p => World.frozen?_of_block (by rw [e])
  exact ⟨by rw [e]; exact h.lt, fun i v hv => (e1 _).trans (h.c i v hv), fun i hi => (e2 _).trans (h.f i hi)⟩
theorem Only.as {b : Nat} {w v v' : World} (h : Only b w v) (e1 : v'.os = v.os) (e2 : v'.tape = v.tape) (e3 : v'.output = v.output) (e4 : v'.heap = v.heap) : Only b w v' :=
  ⟨e1.trans h.os, e2.trans h.tape, e3.trans h.output, by rw [e4]; exact h.size, fun k hk => by rw [e4]; exact h.block k hk⟩
theorem Held.one {b : Nat} {cs : List Value} {w : World} (h : Held b cs w) (i : Nat) {v : Value} (hv : cs[i]? = some v) : w.cell? ⟨b, i, none⟩ = some v ∧ w.frozen? ⟨b, i, none⟩ = false :=
  ⟨h.c i v hv, h.f i (by rcases Nat.lt_or_ge i cs.length with k | k; exact k; simp [List.getElem?_eq_none k] at hv)⟩

/-- A table that came in as a slice: rows of flat cells (kinds ks), one behind the other. -/
structure Tab (ks : List (Option IntKind)) (w : World) (a : Option Addr) (rows : List (List Value)) : Prop where
  flat : ∀ r ∈ rows, FlatC ks r
  cells : rows = [] ∨ ∃ b off, a = some ⟨b, off, none⟩ ∧ b < w.heap.size ∧ ∀ i, i < rows.length → ∀ j v, (rows.getD i [])[j]? = some v → w.cell? ⟨b, off + i * ks.length + j, none⟩ = some v

theorem Tab.below {ks : List (Option IntKind)} {w w' : World} {a : Option Addr} {rows : List (List Value)} (h : Tab ks w a rows) (hb : Below w.heap.size w w') : Tab ks w' a rows := by
  refine ⟨h.flat, ?_⟩
  rcases h.cells with h0 | ⟨b, off, e, hlt, hc⟩
  · exact .inl h0
  · exact .inr ⟨b, off, e, Nat.lt_of_lt_of_le hlt hb.size, fun i hi j v hv => (hb.cell (p := ⟨b, off + i * ks.length + j, none⟩) hlt).trans (hc i hi j v hv)⟩

theorem Tab.at {ks : List (Option IntKind)} {w : World} {a : Option Addr} {rows : List (List Value)} (h : Tab ks w a rows) {i : Nat} (hi : i < rows.length) :
    ∃ b off r, a = some ⟨b, off, none⟩ ∧ b < w.heap.size ∧ rows.getD i [] = r ∧ FlatC ks r ∧ ∀ j v, r[j]? = some v → w.cell? ⟨b, off + i * ks.length + j, none⟩ = some v := by
  rcases h.cells with h0 | ⟨b, off, e, hlt, hc⟩
  · rw [h0] at hi; simp at hi
  · refine ⟨b, off, _, e, hlt, rfl, h.flat _ ?_, hc i hi⟩
    simp [List.getD, hi]

theorem rows_snoc {α : Type} (d : α) {l : List α} {k : Nat} (h : k < l.length) : l.take (k + 1) = l.take k ++ [l.getD k d] := by
  rw [List.take_succ_eq_append_getElem h]; simp [List.getD, h]

theorem addr_add (b off i j : Nat) : ((⟨b, off, none⟩ : Addr).add i).add j = ⟨b, off + i + j, none⟩ := by
  have e : ∀ o k : Nat, (⟨b, o, none⟩ : Addr).add k = ⟨b, o + k, none⟩ := fun o k => by
    unfold Addr.add; split
    · subst_vars; rfl
    · rfl
  rw [e, e]

section
variable {H : Type} {enc : TypeId × Value → H} {P : Program} {w : World} {base : Nat} {spare : Nat → Bool} {held : Bool}

theorem open_tab {r : Reach} {b0 : Nat} {t e : TypeId} {v : Value} {d : DataW H} {p : List MemPlace} (ks : List (Option IntKind)) (ht : P.underlying t = some (.slice e)) (hf : Go.Proofs.YtecpmffmmiogfaaGreat.flat P 8 e = some ks) (hc : P.cellsOf e = ks.length) (hk : 0 < ks.length)
    (hv : Value.okWide P w r b0 t v) (h : DataW.Trod enc P w base spare held t v d p) : ∃ (a : Option Addr) (cap : Nat) (rows : List (List Value)), v = .slice a rows.length cap ∧ rows.length ≤ cap ∧ cap ≤ maxLen ∧ Tab ks w a rows := by
  obtain ⟨a, len, cap, rfl⟩ := okWide_slice ht hv
  obtain ⟨fuel, hx⟩ := h
  rcases Go.Deep.open_slice ht hx with ⟨hcs, _⟩ | ⟨x, l, c, m, n, D, Pl, hcs, hb, hl, hm, hmm, _, hel⟩
  · simp [Value.cells] at hcs
    obtain ⟨rfl, rfl, rfl⟩ := hcs
    exact ⟨none, 0, [], rfl, Nat.le_refl _, Nat.zero_le _, ⟨by simp, .inl rfl⟩⟩
  · simp [Value.cells] at hcs
    obtain ⟨rfl, rfl, rfl⟩ := hcs
    have hle : len ≤ m := by rw [hmm]; split <;> omega
    obtain ⟨R, hR⟩ := Go.Deep.choose_lt (α := List Value) (n := len) (p := fun i cs' => FlatC ks cs' ∧ ∀ j u, cs'[j]? = some u → w.cell? ((x.add (i * ks.length)).add j) = some u) (fun i hi => by
      obtain ⟨cs', h1, h2⟩ := hel i (by omega)
      have hfl := flat_of_trod 8 e ks n cs' _ hf h2
      refine ⟨cs', hfl, fun j u hu => ?_⟩
      rw [hc] at h1
      obtain ⟨_, h3, h4⟩ := World.cells?_some h1
      have hj : j < ks.length := by
        rcases Nat.lt_or_ge j cs'.length with k | k
        · omega
        · rw [List.getElem?_eq_none k] at hu; simp at hu
      rw [h4 j hj]
      exact hu)
    have hlen : ((List.range len).map R).length = len := by simp
    refine ⟨some x, cap, (List.range len).map R, by rw [hlen], by rw [hlen]; exact hl, hm, ⟨fun r' hr' => ?_, ?_⟩⟩
    · simp at hr'
      obtain ⟨i, hi, rfl⟩ := hr'
      exact (hR i hi).1
    · by_cases h0 : len = 0
      · subst h0; exact .inl rfl
      · obtain ⟨b, off, spot⟩ := x
        have hcell0 : ∃ u, w.cell? (((⟨b, off, spot⟩ : Addr).add (0 * ks.length)).add 0) = some u := by
          have h1 := hR 0 (by omega)
          have h2 := h1.1.length
          exact ⟨(R 0)[0]'(by omega), h1.2 0 _ (by simp)⟩
        obtain ⟨u, hu⟩ := hcell0
        have hspot : spot = none := by simpa [Addr.add] using World.cell?_spot hu
        subst hspot
        refine .inr ⟨b, off, rfl, cell_lt (by rw [addr_add] at hu; exact hu), fun i hi j v hv => ?_⟩
        have hi' : i < len := by simpa using hi
        have h1 := (hR i hi').2 j v (by simpa [List.getD, hi'] using hv)
        rwa [addr_add] at h1
end
end Go.Proofs.YtecpmffmmiogfaaGreat
namespace Go.Proofs.YtecpmffmmiogfaaGreat
open Go.ChangeShapes Go.WideShapes Go.ChangeAt Go.RowKit
set_option linter.unusedVariables false

/-- A new object that holds cs. -/
def NewObj (cs : List Value) (w : World) (e : Ending) (w' : World) : Prop := ∃ b, w.heap.size ≤ b ∧ e = .returned (.tuple #[.pointer (some ⟨b, 0, none⟩), .int .i64 0]) ∧ Held b cs w' ∧ Below w.heap.size w w'

theorem Held.new (w : World) (cs : List Value) (t : TypeId) : Held w.heap.size cs (w.alloc (.cells cs.toArray t)) :=
  ⟨by simp, fun i v hv => by simpa using hv, fun i hi => by simp⟩
theorem Only.bel {b : Nat} {w v v' : World} (h : Below w.heap.size w v) (k : Only b v v') (hb : w.heap.size ≤ b) : Below w.heap.size w v' := h.trans (k.below hb)
end Go.Proofs.YtecpmffmmiogfaaGreat
namespace Go.Proofs.YtecpmffmmiogfaaGreat
open Go.ChangeShapes Go.WideShapes Go.ChangeAt Go.RowKit
set_option linter.unusedVariables false

structure Beside (b : Nat) (w w' : World) : Prop where
  os : w'.os = w.os
  tape : w'.tape = w.tape
  output : w'.output = w.output
  size : w.heap.size ≤ w'.heap.size
  block : ∀ k, k < w.heap.size → k ≠ b → w'.heap[k]? = w.heap[k]?

theorem Beside.of_below {b : Nat} {w w' : World} (h : Below w.heap.size w w') : Beside b w w' := ⟨h.os, h.tape, h.output, h.size, fun k hk _ => h.block k hk⟩
theorem Beside.of_only {b : Nat} {w w' : World} (h : Only b w w') : Beside b w w' := ⟨h.os, h.tape, h.output, Nat.le_of_eq h.size.symm, fun k _ hb => h.block k hb⟩
theorem Beside.trans {b : Nat} {u v w : World} (h : Beside b u v) (k : Beside b v w) : Beside b u w :=
  ⟨k.os.trans h.os, k.tape.trans h.tape, k.output.trans h.output, Nat.le_trans h.size k.size, fun i hi hb => (k.block i (Nat.lt_of_lt_of_le hi h.size) hb).trans (h.block i hi hb)⟩
theorem Beside.setCell {a w : World} {p : Addr} (h : Beside p.block a w) (u : Value) : Beside p.block a (w.setCell p u) := h.trans (.of_only ((Only.refl p.block w).setCell u))
theorem Beside.as {b : Nat} {w v v' : World} (h : Beside b w v) (e1 : v'.os = v.os) (e2 : v'.tape = v.tape) (e3 : v'.output = v.output) (e4 : v'.heap = v.heap) : Beside b w v' :=
  ⟨e1.trans h.os, e2.trans h.tape, e3.trans h.output, by rw [e4]; exact h.size, fun k hk hb => by rw [e4]; exact h.block k hk hb⟩
theorem Beside.below {b B : Nat} {w w' : World} (h : Beside b w w') (hB : B ≤ b) (hs : B ≤ w.heap.size) : Below B w w' :=
  ⟨h.os, h.tape, h.output, h.size, fun k hk => h.block k (by omega) (by omega)⟩
theorem Held.beside {b b' : Nat} {cs : List Value} {w w' : World} (h : Held b cs w) (k : Beside b' w w') (hb : b ≠ b') : Held b cs w' := by
  have e := k.block b h.lt hb
  exact ⟨Nat.lt_of_lt_of_le h.lt k.size, fun i v hv => (World.cell?_of_block (a := ⟨b, i, none⟩) e).trans (h.c i v hv), fun i hi => (World.frozen?_of_block (a := ⟨b, i, none⟩) e).trans (h.f i hi)⟩
/-- Below an elder world, on. -/
theorem Below.beside {b : Nat} {w v v' : World} (h : Below w.heap.size w v) (k : Beside b v v') (hb : w.heap.size ≤ b) : Below w.heap.size w v' := h.trans (k.below hb h.size)
end Go.Proofs.YtecpmffmmiogfaaGreat
