/- Package bite: the run as it lies in memory, and what reads it. -/
import Derived.Test.YtecpmffmmiogfabBldr
import Derived.Test.YtecpmffmmiogfabHb
import Derived.Deep.OwnRows
namespace Go.Proofs.Ytecpmffmmiogfab
open Go.ChangeShapes Go.WideShapes Go.ChangeAt Go.RowKit
set_option linter.unusedVariables false
set_option linter.unusedSimpArgs false
/-- Of what there was nothing but the blocks p and q has changed. -/
structure Bes2 (p q : Nat) (w w' : World) : Prop where
  os : w'.os = w.os
  tape : w'.tape = w.tape
  output : w'.output = w.output
  size : w.heap.size ≤ w'.heap.size
  block : ∀ k, k < w.heap.size → k ≠ p → k ≠ q → w'.heap[k]? = w.heap[k]?
theorem Bes2.refl (p q : Nat) (w : World) : Bes2 p q w w := ⟨rfl, rfl, rfl, Nat.le_refl _, fun _ _ _ _ => rfl⟩
theorem Bes2.of_below {p q : Nat} {w w' : World} (h : Below w.heap.size w w') : Bes2 p q w w' := ⟨h.os, h.tape, h.output, h.size, fun k hk _ _ => h.block k hk⟩
theorem Bes2.trans {p q : Nat} {u v w : World} (h : Bes2 p q u v) (k : Bes2 p q v w) : Bes2 p q u w :=
  ⟨k.os.trans h.os, k.tape.trans h.tape, k.output.trans h.output, Nat.le_trans h.size k.size, fun i hi hp hq => (k.block i (Nat.lt_of_lt_of_le hi h.size) hp hq).trans (h.block i hi hp hq)⟩
theorem Bes2.of1 {p q : Nat} {u v : World} (h : Beside p u v) : Bes2 p q u v := ⟨h.os, h.tape, h.output, h.size, fun k hk hp _ => h.block k hk hp⟩
theorem Bes2.of2 {p q : Nat} {u v : World} (h : Beside q u v) : Bes2 p q u v := ⟨h.os, h.tape, h.output, h.size, fun k hk _ hq => h.block k hk hq⟩
theorem Bes2.set1 {p q : Nat} {u v : World} (h : Bes2 p q u v) (i : Nat) (x : Value) : Bes2 p q u (v.setCell ⟨p, i, none⟩ x) := h.trans (.of1 ((Beside.of_below (Below.refl _ _)).setCell (p := ⟨p, i, none⟩) x))
theorem Bes2.set2 {p q : Nat} {u v : World} (h : Bes2 p q u v) (i : Nat) (x : Value) : Bes2 p q u (v.setCell ⟨q, i, none⟩ x) := h.trans (.of2 ((Beside.of_below (Below.refl _ _)).setCell (p := ⟨q, i, none⟩) x))
theorem Bes2.bel {p q : Nat} {u v w : World} (h : Bes2 p q u v) (k : Below v.heap.size v w) : Bes2 p q u w := h.trans (.of_below k)
theorem Bes2.drew {p q : Nat} {u v : World} (h : Bes2 p q u v) : Bes2 p q u v.drew := h.bel (Below.refl _ _).drew
theorem Bes2.below {p q B : Nat} {w w' : World} (h : Bes2 p q w w') (hp : B ≤ p) (hq : B ≤ q) (hs : B ≤ w.heap.size) : Below B w w' := ⟨h.os, h.tape, h.output, h.size, fun k hk => h.block k (by omega) (by omega) (by omega)⟩
theorem Held.bes2 {b p q : Nat} {cs : List Value} {w w' : World} (h : Held b cs w) (k : Bes2 p q w w') (hp : b ≠ p) (hq : b ≠ q) : Held b cs w' := by
  have e := k.block b h.lt hp hq
  exact ⟨Nat.lt_of_lt_of_le h.lt k.size, fun i v hv => (World.cell?_of_block (a := ⟨b, i, none⟩) e).trans (h.c i v hv), fun i hi => (World.frozen?_of_block (a := ⟨b, i, none⟩) e).trans (h.f i hi)⟩
theorem Bts.bes2 {w w' : World} {p q tb : Nat} {n : Nat} {NM : Nat → ByteArray} {J : Nat → Nat → Int} (h : Bts w (some ⟨tb, 0, none⟩) n NM J) (k : Bes2 p q w w') (hp : tb ≠ p) (hq : tb ≠ q) : Bts w' (some ⟨tb, 0, none⟩) n NM J := by
  rcases h with h | ⟨b, off, e, hlt, hc⟩
  · exact .inl h
  · injection e with e
    injection e with e1 e2
    subst e1
    have eb := k.block tb hlt hp hq
    refine .inr ⟨tb, off, by rw [e2], Nat.lt_of_lt_of_le hlt k.size, fun i hi => ?_⟩
    obtain ⟨h0, h1, h2, h3, h4, h5, h6⟩ := hc i hi
    exact ⟨(World.cell?_of_block (a := ⟨tb, _, none⟩) eb).trans h0, (World.cell?_of_block (a := ⟨tb, _, none⟩) eb).trans h1, (World.cell?_of_block (a := ⟨tb, _, none⟩) eb).trans h2, (World.cell?_of_block (a := ⟨tb, _, none⟩) eb).trans h3, (World.cell?_of_block (a := ⟨tb, _, none⟩) eb).trans h4, (World.cell?_of_block (a := ⟨tb, _, none⟩) eb).trans h5, (World.cell?_of_block (a := ⟨tb, _, none⟩) eb).trans h6⟩
structure BrSt where
  cur : Nat
  c : Int
  g : Int
  RS : Nat → Int
structure BrR (p q tb tc n : Nat) (NM : Nat → ByteArray) (J : Nat → Nat → Int) (s : BrSt) (w : World) : Prop where
  h : Held p [.slice (some ⟨tb, 0, none⟩) n tc, .slice (some ⟨q, 0, none⟩) n n, .int .i64 s.c, .int .i64 s.g] w
  r : w.rowIs q 3 n (fun i => .int .i64 (s.RS i))
  t : Bts w (some ⟨tb, 0, none⟩) n NM J
  pq : p ≠ q
  tp : tb ≠ p
  tq : tb ≠ q
theorem BrR.bes2 {p q tb tc n : Nat} {NM : Nat → ByteArray} {J : Nat → Nat → Int} {s : BrSt} {p' q' : Nat} {w w' : World} (h : BrR p q tb tc n NM J s w) (k : Bes2 p' q' w w') (h1 : p ≠ p') (h2 : p ≠ q') (h3 : q ≠ p') (h4 : q ≠ q') (h5 : tb ≠ p') (h6 : tb ≠ q')   : BrR p q tb tc n NM J s w' :=
  ⟨h.h.bes2 k h1 h2, h.r.of_block (k.block q h.r.lt h3 h4), h.t.bes2 k h5 h6, h.pq, h.tp, h.tq⟩
theorem BrR.bel {p q tb tc n : Nat} {NM : Nat → ByteArray} {J : Nat → Nat → Int} {s : BrSt} {w w' : World} (h : BrR p q tb tc n NM J s w) (k : Below w.heap.size w w')   : BrR p q tb tc n NM J s w' :=
  ⟨h.h.bel k, h.r.of_block (k.block q h.r.lt), h.t.below k, h.pq, h.tp, h.tq⟩
theorem BrR.at {p q tb tc n : Nat} {NM : Nat → ByteArray} {J : Nat → Nat → Int} {s : BrSt} {w : World} (h : BrR p q tb tc n NM J s w) {i : Nat} (hi : i < n) : w.cell? ⟨tb, i * 7, none⟩ = some (.string (NM i)) ∧ w.cell? ⟨tb, i * 7 + 1, none⟩ = some (.int .i64 (J i 1)) ∧ w.cell? ⟨tb, i * 7 + 2, none⟩ = some (.int .i64 (J i 2)) ∧ w.cell? ⟨tb, i * 7 + 3, none⟩ = some (.int .i64 (J i 3)) ∧ w.cell? ⟨tb, i * 7 + 4, none⟩ = some (.int .i64 (J i 4)) ∧ w.cell? ⟨tb, i * 7 + 5, none⟩ = some (.int .i64 (J i 5)) ∧ w.cell? ⟨tb, i * 7 + 6, none⟩ = some (.int .i64 (J i 6)) := by
  obtain ⟨b, off, e, hlt, hc⟩ := h.t.at hi
  injection e with e
  injection e with e1 e2
  subst e1 e2
  simpa only [Nat.zero_add] using hc
/-- What a run's state is. -/
structure BrI (n : Nat) (J : Nat → Nat → Int) (s : BrSt) : Prop where
  le : s.cur ≤ n
  lo : ∀ i, i < s.cur → s.RS i = 2 ∨ s.RS i = 3
  at1 : s.cur < n → s.RS s.cur = 1
  hi : ∀ i, i < n → s.cur < i → s.RS i = 0
  c0 : 0 ≤ s.c
  g0 : 0 ≤ s.g
  gc : s.g ≤ s.c
  cl : s.cur < n → s.c < J s.cur 6
  gn : s.cur < n → s.g < J s.cur 5
theorem BrI.no1 {n : Nat} {J : Nat → Nat → Int} {s : BrSt} (h : BrI n J s) : ∀ j, j < s.cur → s.RS j ≠ 1 := fun j hj e => by
  rcases h.lo j hj with h | h <;> omega
/-- The limits that right tests have. -/
structure JOk (n : Nat) (NM : Nat → ByteArray) (J : Nat → Nat → Int) : Prop where
  n1 : 1 ≤ n
  n20 : n ≤ 20
  s : ∀ i, i < n → 0 ≤ J i 4 ∧ J i 4 ≤ 100
  m : ∀ i, i < n → 1 ≤ J i 5 ∧ J i 5 ≤ 100
  l : ∀ i, i < n → J i 4 + J i 5 ≤ J i 6 ∧ J i 6 ≤ 1000
  v : ∀ i, i < n → J i 2 ≤ J i 3
  nm : ∀ i, i < n → (NM i).size ≤ 8
theorem namB_size {nm : ByteArray} (h : namB nm = true) : nm.size ≤ 8 := by
  unfold namB at h
  simp only [Bool.and_eq_true, decide_eq_true_eq] at h
  omega
theorem rtB_j {n : Nat} {NM : Nat → ByteArray} {J : Nat → Nat → Int} (q : rtB n NM J = true) : JOk n NM J := by
  obtain ⟨h1, h2, h⟩ := rtB_ok q
  have k : ∀ i, i < n → (NM i).size ≤ 8 ∧ 0 ≤ J i 4 ∧ J i 4 ≤ 100 ∧ 1 ≤ J i 5 ∧ J i 5 ≤ 100 ∧ J i 4 + J i 5 ≤ J i 6 ∧ J i 6 ≤ 1000 ∧ J i 2 ≤ J i 3 := fun i hi => by
    have a := h i hi
    unfold okB tsB bwI at a
    simp only [Bool.and_eq_true, decide_eq_true_eq] at a
    exact ⟨namB_size a.1.1.1.1.1.1, by omega, by omega, by omega, by omega, by omega, by omega, by omega⟩
  exact ⟨h1, h2, fun i hi => by have := k i hi; omega, fun i hi => by have := k i hi; omega, fun i hi => by have := k i hi; omega, fun i hi => by have := k i hi; omega, fun i hi => (k i hi).1⟩
def idxI (a n : Nat) : Int := if a < n then (a : Int) else -1
set_option maxRecDepth 100000 in
set_option maxHeartbeats 8000000 in
theorem bindex (q n qc a : Nat) (RS : Nat → Int) (w : World) (h : w.rowIs q 3 n (fun i => .int .i64 (RS i))) (hn : n ≤ 1000) (hat : a ≤ n) (h1 : a < n → RS a = 1) (h2 : ∀ j, j < a → RS j ≠ 1) : Calls Try.prog 31 #[.slice (some ⟨q, 0, none⟩) n qc, .int .i64 1] w fun e w' => e = .returned (.int .i64 (idxI a n)) ∧ w' = w := by
  have HH := Lib.hid h
  have H1 := Lib.hid h1
  have H2 := Lib.hid h2
  clear h h1 h2
  unfold idxI
  go_enter Try.func31, Try.ntmps31
  go_wp2
  go_loopw [8] (fun i v => ∃ k : Nat, k ≤ a ∧ i = .int .i64 (k : Int) ∧ v = w) (fun i _ => n - (intOf i).toNat)
  case atStart => exact ⟨0, by omega, rfl, rfl⟩
  case round =>
    obtain ⟨k, hk, rfl, rfl⟩ := hrel
    by_cases hlt : k < n
    · have k0 := HH.out.cell hlt
      have j1 : (k : Int) < (n : Int) := by omega
      have j2 : IntKind.i64.wrap ((k : Int) + 1) = (k : Int) + 1 := by rw [IntKind.wrap_i64]; omega
      by_cases e1 : RS k = 1
      · have ek : k = a := by
          rcases Nat.lt_or_ge k a with q | q
          · exact absurd e1 (H2.out k q)
          · omega
        subst ek
        rw [e1] at k0
        go_wp2
        go_ret
        exact ⟨rfl, rfl⟩
      · have ek : k ≠ a := fun e => e1 (e ▸ H1.out (e ▸ hlt))
        have e2 : ¬ 1 = RS k := fun e => e1 e.symm
        generalize RS k = x at *
        go_wp2
        go_roundw
        case rel => exact ⟨k + 1, by omega, by first | rfl | go_num, by first | rfl | trivial⟩
        case measure => simp [intOf] <;> omega
    · have j1 : ¬ (k : Int) < (n : Int) := by omega
      go_wp2
      go_ret
      exact ⟨rfl, rfl⟩
def curI (s : BrSt) (n : Nat) : Int := if s.cur < n then (s.cur : Int) else 0
def sigI (s : BrSt) (n : Nat) (J : Nat → Nat → Int) : Int := if s.cur < n then J s.cur 1 else 0
set_option maxRecDepth 100000 in
set_option maxHeartbeats 8000000 in
theorem bcurrent (p q tb tc n : Nat) (NM : Nat → ByteArray) (J : Nat → Nat → Int) (s : BrSt) (w : World) (h : BrR p q tb tc n NM J s w) (hi : BrI n J s) (hj : JOk n NM J) : Calls Try.prog 21 #[.pointer (some ⟨p, 0, none⟩)] w fun e w' => e = .returned (.tuple #[.int .i64 (curI s n), .bool (decide (s.cur < n))]) ∧ w' = w := by
  have hn := hj.n20
  have IX := bindex q n n s.cur s.RS w h.r (by omega) hi.le hi.at1 hi.no1
  have hh := h.h
  obtain ⟨k0, f0⟩ := hh.one 0 rfl
  obtain ⟨k1, f1⟩ := hh.one 1 rfl
  obtain ⟨k2, f2⟩ := hh.one 2 rfl
  obtain ⟨k3, f3⟩ := hh.one 3 rfl
  unfold idxI at IX
  unfold curI
  by_cases hc : s.cur < n
  · rw [if_pos hc] at IX ⊢
    rw [decide_eq_true hc]
    replace IX := Lib.hid IX
    have z0 : 0 ≤ (s.cur : Int) := by omega
    generalize s.cur = a at *
    clear h hi hj hh hc
    go_enter Try.func21, Try.ntmps21
    go_wp2_with (go_at_call 31; refine IX.out.mono ?_)
    rintro e w1 ⟨rfl, rfl⟩
    go_wp2
    go_ret2
    exact ⟨by first | rfl | (congr 2; simp) | trivial, rfl⟩
  · rw [if_neg hc] at IX ⊢
    rw [decide_eq_false hc]
    replace IX := Lib.hid IX
    clear h hi hj hh hc
    go_enter Try.func21, Try.ntmps21
    go_wp2_with (go_at_call 31; refine IX.out.mono ?_)
    rintro e w1 ⟨rfl, rfl⟩
    go_wp2
    go_ret2
    exact ⟨by first | rfl | trivial, rfl⟩
set_option maxRecDepth 100000 in
set_option maxHeartbeats 8000000 in
theorem bsignal (p q tb tc n : Nat) (NM : Nat → ByteArray) (J : Nat → Nat → Int) (s : BrSt) (w : World) (h : BrR p q tb tc n NM J s w) (hi : BrI n J s) (hj : JOk n NM J) : Calls Try.prog 11 #[.pointer (some ⟨p, 0, none⟩)] w fun e w' => e = .returned (.tuple #[.int .i64 (sigI s n J), .bool (decide (s.cur < n))]) ∧ w' = w := by
  have CR := bcurrent p q tb tc n NM J s w h hi hj
  have hh := h.h
  unfold curI at CR
  unfold sigI
  by_cases hc : s.cur < n
  · obtain ⟨-, k1, -⟩ := h.at hc
    have c0 := (hh.one 0 rfl).1
    rw [if_pos hc] at CR ⊢
    have j1 : (s.cur : Int) < (n : Int) := by omega
    rw [decide_eq_true hc] at CR ⊢
    replace CR := Lib.hid CR
    generalize s.cur = a at *
    generalize J a 1 = x at *
    clear h hi hj hh hc
    go_enter Try.func11, Try.ntmps11
    go_wp2_with (go_at_call 21; refine CR.out.mono ?_)
    rintro e w1 ⟨rfl, rfl⟩
    go_wp2
    go_ret2
    exact ⟨rfl, rfl⟩
  · rw [if_neg hc] at CR ⊢
    rw [decide_eq_false hc] at CR ⊢
    replace CR := Lib.hid CR
    clear h hi hj hh hc
    go_enter Try.func11, Try.ntmps11
    go_wp2_with (go_at_call 21; refine CR.out.mono ?_)
    rintro e w1 ⟨rfl, rfl⟩
    go_wp2
    go_ret2
    exact ⟨rfl, rfl⟩
set_option maxRecDepth 100000 in
set_option maxHeartbeats 8000000 in
theorem bdone (p q tb tc n : Nat) (NM : Nat → ByteArray) (J : Nat → Nat → Int) (s : BrSt) (w : World) (h : BrR p q tb tc n NM J s w) (hi : BrI n J s) (hj : JOk n NM J) : Calls Try.prog 14 #[.pointer (some ⟨p, 0, none⟩)] w fun e w' => e = .returned (.bool (!decide (s.cur < n))) ∧ w' = w := by
  have CR := Lib.hid (bcurrent p q tb tc n NM J s w h hi hj)
  generalize decide (s.cur < n) = d at *
  generalize curI s n = x at *
  clear h hi hj
  go_enter Try.func14, Try.ntmps14
  go_wp2_with (go_at_call 21; refine CR.out.mono ?_)
  rintro e w1 ⟨rfl, rfl⟩
  go_wp2
  go_ret
  exact ⟨by first | rfl | trivial, rfl⟩
/-- A row of results that came back. -/
structure ResI (v : Value) (n : Nat) (RS : Nat → Int) (w w' : World) : Prop where
  b : Below w.heap.size w w'
  o : ∃ g cap, v = .slice (some ⟨g, 0, none⟩) n cap ∧ w.heap.size ≤ g ∧ g < w'.heap.size ∧ ∀ i, i < n → w'.cell? ⟨g, i, none⟩ = some (.int .i64 (RS i))
theorem ResI.of {v : Value} {n : Nat} {RS : Nat → Int} {w w' : World} (h1 : 1 ≤ n) (h : w'.ownsRow w.heap.size 3 1 v n ((List.range n).map fun i => .int .i64 (RS i))) (hb : Below w.heap.size w w') : ResI v n RS w w' := by
  refine ⟨hb, ?_⟩
  have hl := h.lt
  have h' := h
  rcases h.2 with ⟨-, h0⟩ | ⟨g, cap, cur, rfl, hg, -⟩
  · omega
  · refine ⟨g, cap, rfl, hg, (hl g rfl).2, fun i hi => ?_⟩
    rw [h'.cellAt i (by omega)]
    simp [hi]
set_option maxRecDepth 100000 in
set_option maxHeartbeats 8000000 in
theorem bresults (p q tb tc n : Nat) (NM : Nat → ByteArray) (J : Nat → Nat → Int) (s : BrSt) (w : World) (h : BrR p q tb tc n NM J s w) (hi : BrI n J s) (hj : JOk n NM J) : Calls Try.prog 13 #[.pointer (some ⟨p, 0, none⟩)] w fun e w' => ∃ v, e = .returned v ∧ ResI v n s.RS w w' := by
  have hn := hj.n20
  have n1 := hj.n1
  have hh := h.h
  obtain ⟨k0, f0⟩ := hh.one 0 rfl
  obtain ⟨k1, f1⟩ := hh.one 1 rfl
  obtain ⟨k2, f2⟩ := hh.one 2 rfl
  obtain ⟨k3, f3⟩ := hh.one 3 rfl
  have CL := Lib.hid (bcloneI q 0 n n ((List.range n).map fun i => .int .i64 (s.RS i)) w (by simp) (by omega) (fun j u hu => by
    have hlt : j < n := by
      rcases Nat.lt_or_ge j n with q | q
      · exact q
      · simp [q] at hu
    rw [Nat.zero_add]
    simp [hlt] at hu
    rw [h.r.cell hlt, hu]) (fun u hu => by
    obtain ⟨i, -, rfl⟩ := List.mem_map.1 hu
    rfl))
  have RI := Lib.hid (fun v w' a b => ResI.of (v := v) (RS := s.RS) (w := w) (w' := w') n1 a b)
  generalize s.RS = RS at *
  clear h hi hj hh
  go_enter Try.func13, Try.ntmps13
  go_wp2_with (go_at_call 23; refine CL.out.mono ?_)
  rintro e w1 ⟨v, rfl, ho, -, hb⟩
  have ri := Lib.hid (RI.out v w1 ho hb)
  clear ho hb RI
  go_wp2
  go_ret
  exact ⟨v, rfl, ri.out⟩
set_option maxRecDepth 100000 in
set_option maxHeartbeats 8000000 in
theorem bnil_current (w : World) : Calls Try.prog 21 #[.pointer none] w fun e w' => e = .returned (.tuple #[.int .i64 0, .bool false]) ∧ w' = w := by
  go_enter Try.func21, Try.ntmps21
  go_wp2
  go_ret2
  exact ⟨rfl, rfl⟩
set_option maxRecDepth 100000 in
set_option maxHeartbeats 8000000 in
theorem bnil_signal (w : World) : Calls Try.prog 11 #[.pointer none] w fun e w' => e = .returned (.tuple #[.int .i64 0, .bool false]) ∧ w' = w := by
  go_enter Try.func11, Try.ntmps11
  go_wp2_with (go_at_call 21; refine (bnil_current _).mono ?_)
  rintro e w1 ⟨rfl, rfl⟩
  go_wp2
  go_ret2
  exact ⟨rfl, rfl⟩
set_option maxRecDepth 100000 in
set_option maxHeartbeats 8000000 in
theorem bnil_done (w : World) : Calls Try.prog 14 #[.pointer none] w fun e w' => e = .returned (.bool true) ∧ w' = w := by
  go_enter Try.func14, Try.ntmps14
  go_wp2_with (go_at_call 21; refine (bnil_current _).mono ?_)
  rintro e w1 ⟨rfl, rfl⟩
  go_wp2
  go_ret
  exact ⟨rfl, rfl⟩
set_option maxRecDepth 100000 in
set_option maxHeartbeats 8000000 in
theorem bnil_step (w : World) (a : Int) : Calls Try.prog 12 #[.pointer none, .int .i64 a] w fun e w' => e = .returned (.bool false) ∧ w' = w := by
  go_enter Try.func12, Try.ntmps12
  go_wp2_with (go_at_call 21; refine (bnil_current _).mono ?_)
  rintro e w1 ⟨rfl, rfl⟩
  go_wp2
  go_ret
  exact ⟨rfl, rfl⟩
set_option maxRecDepth 100000 in
set_option maxHeartbeats 8000000 in
theorem bnil_results (w : World) : Calls Try.prog 13 #[.pointer none] w fun e w' => e = .returned (.slice none 0 0) ∧ w' = w := by
  go_enter Try.func13, Try.ntmps13
  go_wp2
  go_ret
  exact ⟨rfl, rfl⟩
set_option maxRecDepth 100000 in
set_option maxHeartbeats 8000000 in
theorem bnil_text (w : World) : Calls Try.prog 15 #[.pointer none] w fun e w' => e = .returned (.string ⟨#[]⟩) ∧ w' = w := by
  go_enter Try.func15, Try.ntmps15
  go_wp2
  go_ret
  exact ⟨rfl, rfl⟩
set_option maxRecDepth 100000 in
set_option maxHeartbeats 8000000 in
theorem bnil_abort (w : World) : Calls Try.prog 10 #[.pointer none] w fun e w' => e = .returned (.tuple #[]) ∧ w' = w := by
  go_enter Try.func10, Try.ntmps10
  go_wp2
  (try simp only [Exit.inBlock, Exit.then])
  refine bodyPost_ret (results_none rfl _ _ _) rfl ?_
  exact ⟨rfl, rfl⟩
end Go.Proofs.Ytecpmffmmiogfab
