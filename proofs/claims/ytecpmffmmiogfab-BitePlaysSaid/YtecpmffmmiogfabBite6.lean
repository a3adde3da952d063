/- Package bite: words, Text, Abort, Longest, New; walked. -/
import Derived.Test.YtecpmffmmiogfabBite5
import Derived.Deep.RegionWith
namespace Go.Proofs.Ytecpmffmmiogfab
open Go.ChangeShapes Go.WideShapes Go.ChangeAt Go.RowKit
set_option linter.unusedVariables false
set_option linter.unusedSimpArgs false
def wdB (r : Int) : ByteArray := if r = 0 then ⟨#[119, 97, 105, 116, 105, 110, 103]⟩ else if r = 1 then ⟨#[114, 117, 110, 110, 105, 110, 103]⟩ else if r = 2 then ⟨#[112, 97, 115, 115, 101, 100]⟩ else ⟨#[102, 97, 105, 108, 101, 100]⟩
theorem wdB_size (r : Int) : (wdB r).size ≤ 7 := by
  unfold wdB
  split
  · decide
  · split
    · decide
    · split <;> decide
set_option maxRecDepth 100000 in
set_option maxHeartbeats 8000000 in
theorem bword1 (r : Int) (w : World) : Calls Try.prog 25 #[.int .i64 r] w fun e w' => e = .returned (.string (wdB r)) ∧ w' = w := by
  obtain ⟨R, hR⟩ : ∃ R, wdB r = R := ⟨_, rfl⟩
  rw [hR]
  unfold wdB at hR
  by_cases h0 : r = 0
  · subst h0
    rw [if_pos rfl] at hR
    subst hR
    go_enter Try.func25, Try.ntmps25
    go_wp2
    go_ret
    exact ⟨rfl, rfl⟩
  · rw [if_neg h0] at hR
    by_cases h1 : r = 1
    · subst h1
      rw [if_pos rfl] at hR
      subst hR
      clear h0
      go_enter Try.func25, Try.ntmps25
      go_wp2
      go_ret
      exact ⟨rfl, rfl⟩
    · rw [if_neg h1] at hR
      by_cases h2 : r = 2
      · subst h2
        rw [if_pos rfl] at hR
        subst hR
        clear h0 h1
        go_enter Try.func25, Try.ntmps25
        go_wp2
        go_ret
        exact ⟨rfl, rfl⟩
      · rw [if_neg h2] at hR
        subst hR
        go_enter Try.func25, Try.ntmps25
        go_wp2
        go_ret
        exact ⟨rfl, rfl⟩
set_option maxRecDepth 100000 in
set_option maxHeartbeats 8000000 in
theorem bword2 (r : Int) (w : World) : Calls Try.prog 19 #[.int .i64 r] w fun e w' => e = .returned (.string (wdB r)) ∧ w' = w := by
  obtain ⟨R, hR⟩ : ∃ R, wdB r = R := ⟨_, rfl⟩
  rw [hR]
  unfold wdB at hR
  by_cases h0 : r = 0
  · subst h0
    rw [if_pos rfl] at hR
    subst hR
    go_enter Try.func19, Try.ntmps19
    go_wp2
    go_ret
    exact ⟨rfl, rfl⟩
  · rw [if_neg h0] at hR
    by_cases h1 : r = 1
    · subst h1
      rw [if_pos rfl] at hR
      subst hR
      clear h0
      go_enter Try.func19, Try.ntmps19
      go_wp2
      go_ret
      exact ⟨rfl, rfl⟩
    · rw [if_neg h1] at hR
      by_cases h2 : r = 2
      · subst h2
        rw [if_pos rfl] at hR
        subst hR
        clear h0 h1
        go_enter Try.func19, Try.ntmps19
        go_wp2
        go_ret
        exact ⟨rfl, rfl⟩
      · rw [if_neg h2] at hR
        subst hR
        go_enter Try.func19, Try.ntmps19
        go_wp2
        go_ret
        exact ⟨rfl, rfl⟩
/-- A line for each test. -/
def lnB (nm : ByteArray) (r : Int) : ByteArray := nm ++ ⟨#[32]⟩ ++ wdB r ++ ⟨#[10]⟩
def txB (NM : Nat → ByteArray) (RS : Nat → Int) : Nat → ByteArray
  | 0 => ⟨#[]⟩
  | k + 1 => txB NM RS k ++ lnB (NM k) (RS k)
theorem lnB_size {nm : ByteArray} {r : Int} (h : nm.size ≤ 8) : (lnB nm r).size ≤ 17 := by
  have := wdB_size r
  unfold lnB
  simp only [ByteArray.size_append]
  have e1 : (⟨#[32]⟩ : ByteArray).size = 1 := rfl
  have e2 : (⟨#[10]⟩ : ByteArray).size = 1 := rfl
  omega
theorem txB_size {NM : Nat → ByteArray} {RS : Nat → Int} : ∀ {k : Nat}, (∀ i, i < k → (NM i).size ≤ 8) → (txB NM RS k).size ≤ k * 17
  | 0, _ => Nat.zero_le _
  | k + 1, h => by
    have h1 := txB_size (NM := NM) (RS := RS) (k := k) (fun i hi => h i (by omega))
    have h2 := lnB_size (nm := NM k) (r := RS k) (h k (by omega))
    show (txB NM RS k ++ lnB (NM k) (RS k)).size ≤ _
    rw [ByteArray.size_append]
    omega
theorem strCells_app (a b : ByteArray) : Lib.strCells (a ++ b) = Lib.strCells a ++ Lib.strCells b := by
  unfold Lib.strCells
  rw [show (a ++ b).data = a.data ++ b.data from ByteArray.data_append]
  simp
theorem bld_new (w : World) : ∃ V, V = w.alloc (.cells #[.pointer none, .slice none 0 0] 50) ∧ Lib.IsBuilder 50 5 w.heap.size w.heap.size [] V ∧ Below w.heap.size w V ∧ V.heap.size = w.heap.size + 1 :=
  ⟨_, rfl, .inl ⟨Nat.le_refl _, .slice none 0 0, heap_alloc_new w _, World.ownsRow_nil _ _ _ _, by simp [Value.ownBlock]⟩, (Below.refl _ _).alloc (Nat.le_refl _) _, by simp⟩
theorem bld_at {T e : TypeId} {B b : Nat} {q : Value} {bs : List Value} {w : World} (h : Lib.BuilderAt T e B b q bs w) (o : Obj) : Lib.BuilderAt T e B b q bs (w.alloc o) := by
  have hlt := h.lt
  obtain ⟨hB, v, hb, ho, hn⟩ := h
  exact ⟨hB, v, (Lib.alloc_old w o b hlt).trans hb, ho.alloc o, hn⟩
theorem bld_alloc {T e : TypeId} {B b : Nat} {bs : List Value} {w : World} (h : Lib.IsBuilder T e B b bs w) (o : Obj) : Lib.IsBuilder T e B b bs (w.alloc o) := by
  rcases h with h | h
  · exact .inl (bld_at h o)
  · exact .inr (bld_at h o)
theorem bld_drew {T e : TypeId} {B b : Nat} {bs : List Value} {w : World} (h : Lib.IsBuilder T e B b bs w) : Lib.IsBuilder T e B b bs w.drew := by
  rcases h with h | h
  · exact .inl h
  · exact .inr h
theorem addS (a b : ByteArray) (w : World) (h : (a ++ b).size ≤ maxLen) : (Op.stringOp .add a b).run Try.prog w = .ok (.string (a ++ b)) w := run_string_add_sum w a b (by rw [ByteArray.size_append] at h; unfold maxLen at h; omega)
set_option maxRecDepth 100000 in
set_option maxHeartbeats 8000000 in
theorem btext (p q tb tc n : Nat) (NM : Nat → ByteArray) (J : Nat → Nat → Int) (cu : Nat) (cc gg : Int) (RS : Nat → Int) (w : World) (h : BrR p q tb tc n NM J ⟨cu, cc, gg, RS⟩ w) (hj : JOk n NM J) : Calls Try.prog 15 #[.pointer (some ⟨p, 0, none⟩)] w fun e w' => e = .returned (.string (txB NM RS n)) ∧ Below w.heap.size w w' := by
  have hn := hj.n20
  have HH := Lib.hid (fun u (k : Below w.heap.size w u) => h.bel k)
  have SZ := Lib.hid (fun k (hk : k ≤ n) => txB_size (NM := NM) (RS := RS) (k := k) (fun i hi => hj.nm i (by omega)))
  have LZ := Lib.hid (fun k (hk : k < n) => lnB_size (nm := NM k) (r := RS k) (hj.nm k hk))
  have hnm := Lib.hid hj.nm
  have hh := h.h
  obtain ⟨c0, -⟩ := hh.one 0 rfl
  obtain ⟨V0, eV0, hB0, hb0, hz0⟩ := bld_new w
  have k0 := (bc hb0 h.h.lt).trans c0
  have hsz := Lib.hid (show w.heap.size + 1 ≤ V0.heap.size by omega)
  replace eV0 := Lib.hid eV0
  replace hB0 := Lib.hid hB0
  replace hb0 := Lib.hid hb0
  clear hh h hj c0 hz0
  go_enter Try.func15, Try.ntmps15
  go_upto_region 4 with (fail)
  rw [← eV0.out]
  clear eV0
  go_wp2
  go_loopw [13] (fun i v => ∃ k : Nat, k ≤ n ∧ i = .int .i64 (k : Int) ∧ Hid (Below w.heap.size w v) ∧ Hid (Lib.IsBuilder 50 5 w.heap.size w.heap.size (Lib.strCells (txB NM RS k)) v)) (fun i _ => n - (intOf i).toNat)
  case atStart => exact ⟨0, by omega, rfl, hb0, hB0⟩
  case round =>
    clear hB0 hb0 k0
    obtain ⟨k, hk, rfl, hb, hB⟩ := hrel
    by_cases hlt : k < n
    · have hq := HH.out _ hb.out
      obtain ⟨k0, k1, k2, k3, k4, k5, k6⟩ := hq.at hlt
      have j1 : (k : Int) < (n : Int) := by omega
      have j2 : IntKind.i64.wrap ((k : Int) + 1) = (k : Int) + 1 := by rw [IntKind.wrap_i64]; omega
      obtain ⟨V, eV, hm0, hz, hbx⟩ := bt_box wr (NM k) (J k 1) (J k 2) (J k 3) (J k 4) (J k 5) (J k 6)
      have hbV := Lib.hid (hb.out.trans (hm0.mono hb.out.size))
      have hBV := Lib.hid (show Lib.IsBuilder 50 5 w.heap.size w.heap.size (Lib.strCells (txB NM RS k)) V from by rw [eV]; exact bld_alloc hB.out _)
      have hr := HH.out _ hbV.out
      have hp := hr.h
      have g1 := (hp.one 1 rfl).1
      have g2 : V.cell? ⟨q, k, none⟩ = some (.int .i64 (RS k)) := hr.r.cell hlt
      have g3 := (hbx.one 0 rfl).1
      have sz := SZ.out k hk
      have lz := LZ.out k hlt
      have WR := Lib.hid (fun u (a : Lib.IsBuilder 50 5 w.heap.size w.heap.size (Lib.strCells (txB NM RS k)) u) (b : Below w.heap.size w u) => bwrite w.heap.size w.heap.size _ (lnB (NM k) (RS k)) u a (by rw [Lib.strCells_length]; omega) b.size)
      have ad1 : ∀ u, (Op.stringOp .add (NM k) ⟨#[32]⟩).run Try.prog u = .ok (.string (NM k ++ ⟨#[32]⟩)) u := fun u => addS _ _ _ (by have := hnm.out k hlt; simp only [ByteArray.size_append]; have e1 : (⟨#[32]⟩ : ByteArray).size = 1 := rfl; unfold maxLen; omega)
      have ad2 : ∀ u, (Op.stringOp .add (NM k ++ ⟨#[32]⟩) (wdB (RS k))).run Try.prog u = .ok (.string (NM k ++ ⟨#[32]⟩ ++ wdB (RS k))) u := fun u => addS _ _ _ (by have := hnm.out k hlt; have := wdB_size (RS k); simp only [ByteArray.size_append]; have e1 : (⟨#[32]⟩ : ByteArray).size = 1 := rfl; unfold maxLen; omega)
      have ad3 : ∀ u, (Op.stringOp .add (NM k ++ ⟨#[32]⟩ ++ wdB (RS k)) ⟨#[10]⟩).run Try.prog u = .ok (.string (lnB (NM k) (RS k))) u := fun u => addS _ _ _ (by have := lz; unfold lnB at this; unfold maxLen; omega)
      have TX := Lib.hid (show Lib.strCells (txB NM RS k) ++ Lib.strCells (lnB (NM k) (RS k)) = Lib.strCells (txB NM RS (k + 1)) from (strCells_app _ _).symm)
      generalize lnB (NM k) (RS k) = L at *
      generalize RS k = x at *
      generalize NM k = nm at *
      generalize J k 1 = si at *
      generalize J k 2 = lo at *
      generalize J k 3 = hi at *
      generalize J k 4 = se at *
      generalize J k 5 = ne at *
      generalize J k 6 = li at *
      replace eV := Lib.hid eV
      replace hz := Lib.hid hz
      clear hq hr hp hm0 hbx sz lz
      go_upto_region 7 with (fail)
      rw [← eV.out]
      clear k0 k1 k2 k3 k4 k5 k6
      refine region_moves (fun u => u.cell? ⟨wr.heap.size, 0, none⟩ = some (.string nm) ∧ u.cell? ⟨p, 1, none⟩ = some (.slice (some ⟨q, 0, none⟩) n n) ∧ u.cell? ⟨q, k, none⟩ = some (.int .i64 x)) [(13, [(12, 13), (10, 13), (11, 12), (9, 10), (2, 11), (8, 9), (1, 2), (6, 8), (7, 8), (0, 1), (5, 6), (4, 5), (3, 4)])] [(.free, 0), (.take, 1), (.free, 2), (.free, 3), (.free, 4), (.free, 5), (.take, 6), (.free, 7), (.free, 8), (.take, 9), (.step, 10), (.free, 11), (.free, 12), (.late, 13)] _ (by kernel_rfl) (by kernel_rfl) (by kernel_rfl) (by kernel_rfl) (by decide) rfl (fun _ _ _ _ _ h => h) ?_
      simp only [List.filterMap_cons, List.filterMap_nil, List.getElem?_toArray, List.getElem?_cons_zero, List.getElem?_cons_succ, Option.map_some]
      iterate 1
        first
          | (refine mv_free ?_ (Or.inl ⟨by rfl, ?_⟩) (⟨g3, g1, g2⟩) ?_
             rotate_left 1
             · intro u
               go_simp
               try with_reducible rfl
             simp only [Act.put, List.setIfInBounds_toArray, List.set_cons_zero, List.set_cons_succ])
          | (refine mv_free _ (Or.inr ⟨by rfl, rfl⟩) (⟨g3, g1, g2⟩) ?_
             simp only [Act.put, List.setIfInBounds_toArray, List.set_cons_zero, List.set_cons_succ])
      iterate 1
        first
          | (refine mv_take ?_ (Or.inl ⟨by rfl, ?_⟩) (⟨g3, g1, g2⟩) ?_
             rotate_left 1
             · intro u hu
               (try dsimp only at hu)
               go_simp
               try with_reducible rfl
             simp only [Act.put, List.setIfInBounds_toArray, List.set_cons_zero, List.set_cons_succ])
          | (refine mv_take _ (Or.inr ⟨by rfl, rfl⟩) (⟨g3, g1, g2⟩) ?_
             simp only [Act.put, List.setIfInBounds_toArray, List.set_cons_zero, List.set_cons_succ])
      iterate 4
        first
          | (refine mv_free ?_ (Or.inl ⟨by rfl, ?_⟩) (⟨g3, g1, g2⟩) ?_
             rotate_left 1
             · intro u
               go_simp
               try with_reducible rfl
             simp only [Act.put, List.setIfInBounds_toArray, List.set_cons_zero, List.set_cons_succ])
          | (refine mv_free _ (Or.inr ⟨by rfl, rfl⟩) (⟨g3, g1, g2⟩) ?_
             simp only [Act.put, List.setIfInBounds_toArray, List.set_cons_zero, List.set_cons_succ])
      iterate 1
        first
          | (refine mv_take ?_ (Or.inl ⟨by rfl, ?_⟩) (⟨g3, g1, g2⟩) ?_
             rotate_left 1
             · intro u hu
               (try dsimp only at hu)
               go_simp
               try with_reducible rfl
             simp only [Act.put, List.setIfInBounds_toArray, List.set_cons_zero, List.set_cons_succ])
          | (refine mv_take _ (Or.inr ⟨by rfl, rfl⟩) (⟨g3, g1, g2⟩) ?_
             simp only [Act.put, List.setIfInBounds_toArray, List.set_cons_zero, List.set_cons_succ])
      iterate 2
        first
          | (refine mv_free ?_ (Or.inl ⟨by rfl, ?_⟩) (⟨g3, g1, g2⟩) ?_
             rotate_left 1
             · intro u
               go_simp
               try with_reducible rfl
             simp only [Act.put, List.setIfInBounds_toArray, List.set_cons_zero, List.set_cons_succ])
          | (refine mv_free _ (Or.inr ⟨by rfl, rfl⟩) (⟨g3, g1, g2⟩) ?_
             simp only [Act.put, List.setIfInBounds_toArray, List.set_cons_zero, List.set_cons_succ])
      iterate 1
        first
          | (refine mv_take ?_ (Or.inl ⟨by rfl, ?_⟩) (⟨g3, g1, g2⟩) ?_
             rotate_left 1
             · intro u hu
               (try dsimp only at hu)
               go_simp
               try with_reducible rfl
             simp only [Act.put, List.setIfInBounds_toArray, List.set_cons_zero, List.set_cons_succ])
          | (refine mv_take _ (Or.inr ⟨by rfl, rfl⟩) (⟨g3, g1, g2⟩) ?_
             simp only [Act.put, List.setIfInBounds_toArray, List.set_cons_zero, List.set_cons_succ])
      refine mv_step (fun K hK => ?_)
      go_simp
      refine (bword1 _ _).mono ?_
      rintro e w1 ⟨rfl, hw1⟩
      subst w1
      go_wp2_with fail
      refine hK.out _ _ _ (fun u hu => hu) (⟨g3, g1, g2⟩) ?_
      clear hK K
      iterate 2
        first
          | (refine mv_free ?_ (Or.inl ⟨by rfl, ?_⟩) (⟨g3, g1, g2⟩) ?_
             rotate_left 1
             · intro u
               go_simp
               try with_reducible rfl
             simp only [Act.put, List.setIfInBounds_toArray, List.set_cons_zero, List.set_cons_succ])
          | (refine mv_free _ (Or.inr ⟨by rfl, rfl⟩) (⟨g3, g1, g2⟩) ?_
             simp only [Act.put, List.setIfInBounds_toArray, List.set_cons_zero, List.set_cons_succ])
      refine mv_late (fun K hK => ?_)
      go_simp
      refine (WR.out _ (bld_drew hBV.out) (hbV.out.drew)).mono ?_
      rintro e w1 ⟨rfl, hB1, hb1⟩
      have hB2 := Lib.hid (show Lib.IsBuilder 50 5 w.heap.size w.heap.size (Lib.strCells (txB NM RS (k + 1))) w1 from by rw [← TX.out]; exact .inr hB1)
      have hb2 := Lib.hid (hbV.out.drew.trans hb1)
      clear hB1 hb1
      go_wp2_with fail
      refine hK.out (fun _ => True) _ _ ?_
      clear hK K
      refine mv_done ?_
      go_wp2
      go_roundw
      case rel => exact ⟨k + 1, by omega, by first | rfl | go_num, hb2, hB2⟩
      case measure => simp [intOf] <;> omega
    · obtain rfl : k = n := by omega
      have ST := Lib.hid (bstring w.heap.size w.heap.size (txB NM RS k).data.toList wr hB.out hb.out.size)
      have ex : (⟨(txB NM RS k).data.toList.toArray⟩ : ByteArray) = txB NM RS k := rfl
      rw [ex] at ST
      go_wp2_with fail
      refine ST.out.mono ?_
      rintro e w1 ⟨rfl, hb1⟩
      have hb2 := Lib.hid (hb.out.trans hb1)
      clear hb1
      go_wp2
      go_ret
      exact ⟨rfl, hb2.out⟩
def abV (x : Int) : Int := if x = 1 ∨ x = 0 then 3 else x
def abF (RS : Nat → Int) (k : Nat) (j : Nat) : Int := if j < k then abV (RS j) else RS j
def brAb (n : Nat) (s : BrSt) : BrSt := ⟨n, s.c, s.g, abF s.RS n⟩
theorem abF_step (RS : Nat → Int) (k : Nat) : (fun j => if j = k then abV (RS k) else abF RS k j) = abF RS (k + 1) := by
  funext j
  unfold abF
  by_cases h1 : j = k
  · subst h1
    rw [if_pos rfl, if_pos (by omega)]
  · rw [if_neg h1]
    by_cases h2 : j < k
    · rw [if_pos h2, if_pos (by omega)]
    · rw [if_neg h2, if_neg (by omega)]
theorem abF_same {RS : Nat → Int} {k : Nat} (h : abV (RS k) = RS k) : abF RS (k + 1) = abF RS k := by
  rw [← abF_step]
  funext j
  by_cases h1 : j = k
  · subst h1
    rw [if_pos rfl]
    unfold abF
    rw [if_neg (by omega), h]
  · rw [if_neg h1]
theorem brAb_ok {n : Nat} {J : Nat → Nat → Int} {s : BrSt} (hi : BrI n J s) : BrI n J (brAb n s) := by
  refine ⟨Nat.le_refl _, fun i h => ?_, fun h => absurd h (Nat.lt_irrefl _), fun i h k => absurd h (Nat.not_lt.2 (Nat.le_of_lt k)), hi.c0, hi.g0, hi.gc, fun h => absurd h (Nat.lt_irrefl _), fun h => absurd h (Nat.lt_irrefl _)⟩
  have h : i < n := h
  show abF s.RS n i = 2 ∨ abF s.RS n i = 3
  unfold abF abV
  rw [if_pos h]
  rcases Nat.lt_or_ge i s.cur with q | q
  · rcases hi.lo i q with e | e <;> rw [e] <;> simp
  · rcases Nat.eq_or_lt_of_le q with e | e
    · rw [← e, hi.at1 (by omega)]
      simp
    · rw [hi.hi i h e]
      simp
theorem BrR.setr {p q tb tc n : Nat} {NM : Nat → ByteArray} {J : Nat → Nat → Int} {a : Nat} {c g : Int} {RS : Nat → Int} {w : World} (h : BrR p q tb tc n NM J ⟨a, c, g, RS⟩ w) (k : Nat) (x : Int) : BrR p q tb tc n NM J ⟨a, c, g, fun j => if j = k then x else RS j⟩ (w.setCell ⟨q, k, none⟩ (.int .i64 x)) := by
  have hb : Bes2 p q w (w.setCell ⟨q, k, none⟩ (.int .i64 x)) := (Bes2.refl p q w).set2 _ _
  exact ⟨h.h.beside ((Beside.of_below (Below.refl _ _)).setCell (p := ⟨q, k, none⟩) _) h.pq, (h.r.set k (.int .i64 x)).congr (fun i hi => by
    show (if i = k then Value.int .i64 x else .int .i64 (RS i)) = .int .i64 (if i = k then x else RS i)
    by_cases q1 : i = k
    · rw [if_pos q1, if_pos q1]
    · rw [if_neg q1, if_neg q1]), h.t.bes2 hb h.tp h.tq, h.pq, h.tp, h.tq⟩
set_option maxRecDepth 100000 in
set_option maxHeartbeats 8000000 in
theorem babort (p q tb tc n : Nat) (NM : Nat → ByteArray) (J : Nat → Nat → Int) (s : BrSt) (w : World) (h : BrR p q tb tc n NM J s w) (hi : BrI n J s) (hj : JOk n NM J) : Calls Try.prog 10 #[.pointer (some ⟨p, 0, none⟩)] w fun e w' => e = .returned (.tuple #[]) ∧ BrR p q tb tc n NM J (brAb n s) w' ∧ Bes2 p q w w' := by
  have hn := hj.n20
  obtain ⟨a, c, g, RS⟩ := s
  have hh : Held p [.slice (some ⟨tb, 0, none⟩) n tc, .slice (some ⟨q, 0, none⟩) n n, .int .i64 c, .int .i64 g] w := h.h
  obtain ⟨c1, -⟩ := hh.one 1 rfl
  have H0 := Lib.hid (show BrR p q tb tc n NM J ⟨a, c, g, abF RS 0⟩ w from h)
  have FIN := Lib.hid (fun u (k : BrR p q tb tc n NM J ⟨a, c, g, abF RS n⟩ u) => show BrR p q tb tc n NM J (brAb n ⟨a, c, g, RS⟩) u from ⟨k.h, k.r, k.t, k.pq, k.tp, k.tq⟩)
  clear hh h hi hj
  go_enter Try.func10, Try.ntmps10
  go_wp2
  go_loopw [11] (fun i v => ∃ k : Nat, k ≤ n ∧ i = .int .i64 (k : Int) ∧ Hid (BrR p q tb tc n NM J ⟨a, c, g, abF RS k⟩ v) ∧ Hid (Bes2 p q w v)) (fun i _ => n - (intOf i).toNat)
  case atStart => exact ⟨0, by omega, rfl, H0, Lib.hid (Bes2.refl _ _ _)⟩
  case round =>
    clear H0 c1
    obtain ⟨k, hk, rfl, HR, HB⟩ := hrel
    by_cases hlt : k < n
    · have j1 : (k : Int) < (n : Int) := by omega
      have j2 : IntKind.i64.wrap ((k : Int) + 1) = (k : Int) + 1 := by rw [IntKind.wrap_i64]; omega
      have hp : Held p [.slice (some ⟨tb, 0, none⟩) n tc, .slice (some ⟨q, 0, none⟩) n n, .int .i64 c, .int .i64 g] wr := HR.out.h
      obtain ⟨c1, -⟩ := hp.one 1 rfl
      have g0 : wr.cell? ⟨q, k, none⟩ = some (.int .i64 (abF RS k k)) := HR.out.r.cell hlt
      have g1 := HR.out.r.frozen k
      rw [show abF RS k k = RS k from if_neg (Nat.lt_irrefl _)] at g0
      clear hp
      by_cases ex : RS k = 1
      · have hx : abV (RS k) = 3 := by unfold abV; rw [ex]; rfl
        have S2 := Lib.hid (show BrR p q tb tc n NM J ⟨a, c, g, abF RS (k + 1)⟩ (wr.setCell ⟨q, k, none⟩ (.int .i64 3)) from by
          have h3 : abV (RS k) = 3 := by unfold abV; rw [ex]; rfl
          rw [← abF_step, h3]
          exact HR.out.setr k 3)
        have B2 := Lib.hid (HB.out.set2 k (.int .i64 3))
        rw [ex] at g0
        clear ex
        go_wp2
        go_roundw
        case rel => exact ⟨k + 1, by omega, by first | rfl | go_num, S2, B2⟩
        case measure => simp [intOf] <;> omega
      · by_cases ex0 : RS k = 0
        · have ex := ex0
          clear ex0
          have S2 := Lib.hid (show BrR p q tb tc n NM J ⟨a, c, g, abF RS (k + 1)⟩ (wr.setCell ⟨q, k, none⟩ (.int .i64 3)) from by
            have h3 : abV (RS k) = 3 := by unfold abV; rw [ex]; rfl
            rw [← abF_step, h3]
            exact HR.out.setr k 3)
          have B2 := Lib.hid (HB.out.set2 k (.int .i64 3))
          rw [ex] at g0
          clear ex
          go_wp2
          go_roundw
          case rel => exact ⟨k + 1, by omega, by first | rfl | go_num, S2, B2⟩
          case measure => simp [intOf] <;> omega
        · have S2 := Lib.hid (show BrR p q tb tc n NM J ⟨a, c, g, abF RS (k + 1)⟩ wr from by
            rw [abF_same (show abV (RS k) = RS k from if_neg (by omega))]
            exact HR.out)
          have e1 : ¬ RS k = 1 := ex
          have e0 : ¬ RS k = 0 := ex0
          clear ex ex0 FIN HR
          have b1 : (RS k == 1) = false := beq_eq_false_iff_ne.2 e1
          have b0 : (RS k == 0) = false := beq_eq_false_iff_ne.2 e0
          generalize RS k = x at *
          go_wp2
          go_roundw
          case rel => exact ⟨k + 1, by omega, by first | rfl | go_num, S2, HB⟩
          case measure => simp [intOf] <;> omega
    · obtain rfl : k = n := by omega
      have hf := Lib.hid (FIN.out _ HR.out)
      go_wp2
      go_end0
      exact ⟨rfl, hf.out, HB.out⟩
def sumL (J : Nat → Nat → Int) : Nat → Int
  | 0 => 0
  | k + 1 => sumL J k + J k 6
theorem sumL_b {n : Nat} {NM : Nat → ByteArray} {J : Nat → Nat → Int} (hj : JOk n NM J) : ∀ k, k ≤ n → 0 ≤ sumL J k ∧ sumL J k ≤ k * 1000
  | 0, _ => ⟨Int.le_refl _, by show (0 : Int) ≤ _; omega⟩
  | k + 1, h => by
    have h1 := sumL_b hj k (by omega)
    have h2 := hj.l k (by omega)
    have h3 := hj.s k (by omega)
    have h4 := hj.m k (by omega)
    show 0 ≤ sumL J k + J k 6 ∧ sumL J k + J k 6 ≤ _
    omega
def lngI (n : Nat) (NM : Nat → ByteArray) (J : Nat → Nat → Int) : Int := if rtB n NM J = true then sumL J n else 0
set_option maxRecDepth 100000 in
set_option maxHeartbeats 8000000 in
theorem blongest (a : Option Addr) (cap n : Nat) (NM : Nat → ByteArray) (J : Nat → Nat → Int) (w : World) (h : Bts w a n NM J) (hl : n ≤ 1000) (hc : n ≤ cap) (hs : ∀ i, i < n → (NM i).size ≤ maxLen) : Calls Try.prog 18 #[.slice a n cap] w fun e w' => e = .returned (.int .i64 (lngI n NM J)) ∧ Below w.heap.size w w' := by
  have RT := bright a cap n NM J w h hl hc hs
  have HH := Lib.hid h
  unfold lngI
  have OK := Lib.hid (fun (e : rtB n NM J = true) => rtB_j e)
  clear h hs
  generalize rtB n NM J = b at *
  cases b
  · rw [if_neg (by decide)]
    replace RT := Lib.hid RT
    go_enter Try.func18, Try.ntmps18
    go_wp2_with fail
    refine RT.out.mono ?_
    rintro e w1 ⟨rfl, hb1⟩
    go_wp2
    go_ret
    exact ⟨rfl, hb1⟩
  · rw [if_pos rfl]
    replace RT := Lib.hid RT
    have SB := Lib.hid (sumL_b (OK.out rfl))
    have JL := Lib.hid (fun k (hk : k < n) => show 0 ≤ J k 6 ∧ J k 6 ≤ 1000 from by
      have h1 := (OK.out rfl).l k hk
      have h2 := (OK.out rfl).s k hk
      have h3 := (OK.out rfl).m k hk
      omega)
    clear OK
    go_enter Try.func18, Try.ntmps18
    go_wp2_with fail
    refine RT.out.mono ?_
    rintro e w1 ⟨rfl, hb1⟩
    replace hb1 := Lib.hid hb1
    go_wp2
    go_loopw [11, 3] (fun i s v => ∃ k : Nat, k ≤ n ∧ i = .int .i64 (k : Int) ∧ s = .int .i64 (sumL J k) ∧ Hid (Below w.heap.size w v)) (fun i _ _ => n - (intOf i).toNat)
    case atStart => exact ⟨0, by omega, rfl, rfl, hb1⟩
    case round =>
      clear hb1
      obtain ⟨k, hk, rfl, rfl, hb⟩ := hrel
      by_cases hlt : k < n
      · obtain ⟨b, off, ea, hbb, k0, k1, k2, k3, k4, k5, k6⟩ := (HH.out.below hb.out).at hlt
        subst ea
        have j1 : (k : Int) < (n : Int) := by omega
        have j2 : IntKind.i64.wrap ((k : Int) + 1) = (k : Int) + 1 := by rw [IntKind.wrap_i64]; omega
        have sb := SB.out k hk
        have jl := JL.out k hlt
        have ws : IntKind.i64.wrap (sumL J k + J k 6) = sumL J k + J k 6 := by rw [IntKind.wrap_i64]; omega
        have SN := Lib.hid (show sumL J k + J k 6 = sumL J (k + 1) from rfl)
        obtain ⟨V, eV, hm0, hz, hbx⟩ := bt_box wr (NM k) (J k 1) (J k 2) (J k 3) (J k 4) (J k 5) (J k 6)
        have hbV := Lib.hid (hb.out.trans (hm0.mono hb.out.size))
        generalize sumL J k = S at *
        generalize NM k = nm at *
        generalize J k 1 = si at *
        generalize J k 2 = lo at *
        generalize J k 3 = hi at *
        generalize J k 4 = se at *
        generalize J k 5 = ne at *
        generalize J k 6 = li at *
        replace eV := Lib.hid eV
        replace hz := Lib.hid hz
        clear hbb hm0 sb jl
        go_upto_region 7 with (fail)
        rw [← eV.out]
        clear k0 k1 k2 k3 k4 k5 k6
        obtain ⟨c0, f0⟩ := hbx.one 0 rfl
        obtain ⟨c1, f1⟩ := hbx.one 1 rfl
        obtain ⟨c2, f2⟩ := hbx.one 2 rfl
        obtain ⟨c3, f3⟩ := hbx.one 3 rfl
        obtain ⟨c4, f4⟩ := hbx.one 4 rfl
        obtain ⟨c5, f5⟩ := hbx.one 5 rfl
        obtain ⟨c6, f6⟩ := hbx.one 6 rfl
        clear hbx
        go_wp2
        go_roundw
        case rel => exact ⟨k + 1, by omega, by first | rfl | go_num, by rw [← SN.out], hbV⟩
        case measure => simp [intOf] <;> omega
      · obtain rfl : k = n := by omega
        go_wp2
        go_ret
        exact ⟨rfl, hb.out⟩
end Go.Proofs.Ytecpmffmmiogfab
