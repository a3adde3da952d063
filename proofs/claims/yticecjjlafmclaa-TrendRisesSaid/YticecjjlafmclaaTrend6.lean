/- A trend's Put: what it leaves alone. -/
import Derived.Test.YticecjjlafmclaaTrend5
import Derived.Deep.Cut
namespace Go.Proofs.Yticecjjlafmclaa
open Go.ChangeShapes Go.WideShapes Go.ChangeAt Go.RowKit
set_option linter.unusedVariables false
set_option linter.unusedSimpArgs false

/-- A trend whose row is this slice. -/
structure TrX (B b : Nat) (sz : Int) (L : List Int) (x : Value) (w : World) : Prop where
  h : Held b [.int .i64 sz, x] w
  o : Ow B x L w
  n : owB x ≠ some b
  t : Tr B b sz L w
theorem TrX.drew {B b : Nat} {sz : Int} {L : List Int} {x : Value} {w : World} (h : TrX B b sz L x w) : TrX B b sz L x w.drew := ⟨h.h.drew, h.o, h.n, h.t.drew⟩
theorem TrX.bel {B b : Nat} {sz : Int} {L : List Int} {x : Value} {w w' : World} (h : TrX B b sz L x w) (k : Below w.heap.size w w') : TrX B b sz L x w' := ⟨h.h.bel k, h.o.bel k, h.n, h.t.bel k⟩
/-- What a trend changes: its own block, its row's and new ones. -/
structure PK (b : Nat) (x : Value) (w w' : World) : Prop where
  os : w'.os = w.os
  tape : w'.tape = w.tape
  output : w'.output = w.output
  size : w.heap.size ≤ w'.heap.size
  block : ∀ k, k < w.heap.size → k ≠ b → owB x ≠ some k → w'.heap[k]? = w.heap[k]?
theorem PK.drew {b : Nat} {x : Value} {w w' : World} (h : PK b x w w') : PK b x w w'.drew := ⟨h.os, h.tape, h.output, h.size, h.block⟩
theorem pk1 {b : Nat} {x : Value} {w A w9 U : World} (hA : Below w.heap.size w A) (hk : OwK x A w9) (hO : Only b w9 U) : PK b x w U := by
  have hU := hO.below (Nat.le_refl b)
  refine ⟨hU.os.trans (hk.os.trans hA.os), hU.tape.trans (hk.tape.trans hA.tape), hU.output.trans (hk.output.trans hA.output), Nat.le_trans hA.size (Nat.le_trans hk.size hU.size), fun k h1 h2 h3 => ?_⟩
  exact (hO.block k h2).trans ((hk.block k (Nat.lt_of_lt_of_le h1 hA.size) h3).trans (hA.block k h1))
theorem pk2 {b : Nat} {x x2 : Value} {w U w9 U2 : World} (h : PK b x w U) (hx : owB x2 = owB x ∨ ∃ g, owB x2 = some g ∧ w.heap.size ≤ g) (hk : OwK x2 U w9) (hO : Only b w9 U2) : PK b x w U2 := by
  have hU := hO.below (Nat.le_refl b)
  refine ⟨hU.os.trans (hk.os.trans h.os), hU.tape.trans (hk.tape.trans h.tape), hU.output.trans (hk.output.trans h.output), Nat.le_trans h.size (Nat.le_trans hk.size hU.size), fun k h1 h2 h3 => ?_⟩
  refine (hO.block k h2).trans ((hk.block k (Nat.lt_of_lt_of_le h1 h.size) ?_).trans (h.block k h1 h2 h3))
  rcases hx with e | ⟨g, e, hg⟩
  · rw [e]; exact h3
  · rw [e]
    intro q
    injection q with q
    omega
set_option maxRecDepth 100000 in
set_option maxHeartbeats 8000000 in
theorem trputx {B b : Nat} {sz : Int} {L : List Int} {x : Value} (h : Int) (w : World) (hX : TrX B b sz L x w) (hl : (L.length : Int) + 1 ≤ sz) : Calls Try.prog 17 #[.pointer (some ⟨b, 0, none⟩), .int .i64 h] w fun e w' => e = .returned (.tuple #[]) ∧ ∃ x', TrX B b sz (L ++ [trH h]) x' w' ∧ PK b x w w' ∧ (owB x' = owB x ∨ ∃ g, owB x' = some g ∧ w.heap.size ≤ g) := by
  have hT := hX.t
  have s1 := hT.s1
  have s2 := hT.s2
  have hbd := hT.bd
  have hlen := hT.len
  have hBB := hT.hB
  obtain ⟨hh, ho, hn, -⟩ := hX
  have hlt := hh.lt
  obtain ⟨m, em⟩ : ∃ m, m = (if h < -100000000 then (-100000000 : Int) else h) := ⟨_, rfl⟩
  obtain ⟨c, ec⟩ : ∃ c, c = trH h := ⟨_, rfl⟩
  have w1 : (if h < -100000000 then (-100000000 : Int) else h) = m := em.symm
  have w2 : (if 100000000 < m then (100000000 : Int) else m) = c := by rw [ec]; unfold trH; omega
  have hcb : -100000000 ≤ c ∧ c ≤ 100000000 := by rw [ec]; exact trH_bd h
  rw [← ec]
  have NB := Lib.hid (show ∀ i, i < (L ++ [c]).length → -100000000 ≤ (L ++ [c]).getD i 0 ∧ (L ++ [c]).getD i 0 ≤ 100000000 from fun i hi => by
    by_cases hi' : i < L.length
    · rw [show (L ++ [c]).getD i 0 = L.getD i 0 from by simp [List.getD, List.getElem?_append_left hi']]
      exact hbd i hi'
    · have e : i = L.length := by simp at hi; omega
      rw [show (L ++ [c]).getD i 0 = c from by simp [List.getD, e]]
      exact hcb)
  have hln : ((L ++ [c]).length : Int) = (L.length : Int) + 1 := by simp
  have hll : (L ++ [c]).length = L.length + 1 := by simp
  have hbA := (Below.refl w.heap.size w).alloc (Nat.le_refl _) (.cells #[.int .i64 c] 2)
  have HA := Lib.hid hbA
  have HS := Lib.hid (show w.heap.size ≤ (w.alloc (.cells #[.int .i64 c] 2)).heap.size from by simp)
  have hOA := Lib.hid (ho.bel hbA)
  have hBA := Lib.hid (show B ≤ (w.alloc (.cells #[.int .i64 c] 2)).heap.size from by simp; omega)
  have HK := Lib.hid (fun w9 (k : OwK x (w.alloc (.cells #[.int .i64 c] 2)) w9) => show Held b [.int .i64 sz, x] w9 ∧ Below B w w9 ∧ b < w9.heap.size from by
    have e : w9.heap[b]? = w.heap[b]? := (k.block b (by simp; omega) hn).trans (hbA.block b hlt)
    have hz : w.heap.size ≤ w9.heap.size := Nat.le_trans (by simp) k.size
    exact ⟨⟨by omega, fun i v hv => (World.cell?_of_block (a := ⟨b, i, none⟩) e).trans (hh.c i v hv), fun i hi => (World.frozen?_of_block (a := ⟨b, i, none⟩) e).trans (hh.f i hi)⟩, (hbA.mono hBB.2).trans (k.below hOA.out hBA.out), by omega⟩)
  have NE := Lib.hid (fun x2 (q : owB x2 = owB x ∨ ∃ g, owB x2 = some g ∧ (w.alloc (.cells #[.int .i64 c] 2)).heap.size ≤ g) => show owB x2 ≠ some b from by
    rcases q with e | ⟨g, e, hg⟩
    · rw [e]; exact hn
    · rw [e]
      intro e2
      injection e2 with e2
      simp at hg
      omega)
  have hc1 := hh.c 1 _ rfl
  clear em ec hbd hcb ho hT hh hlt hn hbA
  replace hBB := Lib.hid hBB
  go_enter Try.func17, Try.ntmps17
  go_upto_region 2 with (first | (at_builtin; refine wpList_append_ow _ rfl (.tmp 10) (.tmp 14) rfl B x L c rfl hOA.out hBA.out _ rfl (by go_simp) (by omega) ?_; intro x2 w9 hO9 hk9 hx9; obtain ⟨ao, cap, rfl, -, -⟩ := hO9.row; rw [hll] at hO9 hx9; obtain ⟨hH9, hb9, hl9⟩ := HK.out _ hk9; have g1 := hH9.f 1 (by simp); have k1 := hH9.c 1 _ rfl; have k0 := hH9.c 0 _ rfl))
  have hne2 := NE.out (.slice ao (L.length + 1) cap) hx9
  obtain ⟨U, eU, hHU, hOU⟩ : ∃ U, U = w9.setCell ⟨b, 1, none⟩ (.slice ao (L.length + 1) cap) ∧ Held b [.int .i64 sz, (.slice ao (L.length + 1) cap)] U ∧ Only b w9 U := ⟨_, rfl, hH9.set 1 (.slice ao (L.length + 1) cap) (by simp), (Only.refl b w9).setCell (p := ⟨b, 1, none⟩) (.slice ao (L.length + 1) cap)⟩
  have hO10 := hO9.kept (w' := U) (fun g q hg => hOU.block g (fun e => hne2 (by rw [q, e])))
  have PU := Lib.hid (pk1 HA.out hk9 hOU)
  have XU := Lib.hid (show owB (.slice ao (L.length + 1) cap) = owB x ∨ ∃ g, owB (.slice ao (L.length + 1) cap) = some g ∧ w.heap.size ≤ g from hx9.elim .inl (fun ⟨g, e, hg⟩ => .inr ⟨g, e, Nat.le_trans HS.out hg⟩))
  have hb10 := hb9.trans (hOU.below hBB.out.1)
  have hT := Lib.hid (show Tr B b sz (L ++ [c]) U from ⟨⟨_, hHU, hO10, hne2⟩, ⟨hBB.out.1, Nat.le_trans hBB.out.2 hb10.size⟩, s1, s2, by rw [hln]; exact hl, NB.out⟩)
  have TU := Lib.hid (show TrX B b sz (L ++ [c]) _ U from ⟨hHU, hO10, hne2, hT.out⟩)
  have q0 := hHU.c 0 _ rfl
  have q1 := hHU.c 1 _ rfl
  rw [← eU]
  replace eU := Lib.hid eU
  replace hb10 := Lib.hid hb10
  clear hk9 hx9 hO9 hH9 hb9 hl9 g1 k1 k0 hne2 hHU hOU hO10
  have d1 : decide (sz < ((L ++ [c]).length : Int)) = false := by simp only [hln]; simp; omega
  have d2 : ¬ sz < ((L ++ [c]).length : Int) := by omega
  have d3 : decide (sz < (L.length : Int) + 1) = false := by simp; omega
  go_wp2_with fail
  refine region_moves (fun u => u.cell? ⟨b, 0, none⟩ = some (.int .i64 sz) ∧ u.cell? ⟨b, 1, none⟩ = some (.slice ao (L.length + 1) cap)) [] [(.free, 0), (.free, 1), (.free, 2), (.take, 3), (.free, 4), (.free, 5), (.free, 6), (.free, 7), (.take, 8), (.free, 9)] _ (by kernel_rfl) (by kernel_rfl) (by kernel_rfl) (by kernel_rfl) (by decide) rfl (fun _ _ _ _ _ h => h) ?_
  simp only [List.filterMap_cons, List.filterMap_nil, List.getElem?_toArray, List.getElem?_cons_zero, List.getElem?_cons_succ, Option.map_some]
  iterate 3
    first
      | (refine mv_free ?_ (Or.inl ⟨by rfl, ?_⟩) (⟨q0, q1⟩) ?_
         rotate_left 1
         · intro u
           go_simp
           try simp only [d1]
           try simp only [d2]
           try simp only [d3]
           try with_reducible rfl
         simp only [Act.put, List.setIfInBounds_toArray, List.set_cons_zero, List.set_cons_succ])
      | (refine mv_free _ (Or.inr ⟨by rfl, rfl⟩) (⟨q0, q1⟩) ?_
         simp only [Act.put, List.setIfInBounds_toArray, List.set_cons_zero, List.set_cons_succ])
  iterate 1
    first
      | (refine mv_take ?_ (Or.inl ⟨by rfl, ?_⟩) (⟨q0, q1⟩) ?_
         rotate_left 1
         · intro u hu
           (try dsimp only at hu)
           go_simp
           try with_reducible rfl
         simp only [Act.put, List.setIfInBounds_toArray, List.set_cons_zero, List.set_cons_succ])
      | (refine mv_take _ (Or.inr ⟨by rfl, rfl⟩) (⟨q0, q1⟩) ?_
         simp only [Act.put, List.setIfInBounds_toArray, List.set_cons_zero, List.set_cons_succ])
  iterate 4
    first
      | (refine mv_free ?_ (Or.inl ⟨by rfl, ?_⟩) (⟨q0, q1⟩) ?_
         rotate_left 1
         · intro u
           go_simp
           try simp only [d1]
           try simp only [d2]
           try simp only [d3]
           try with_reducible rfl
         simp only [Act.put, List.setIfInBounds_toArray, List.set_cons_zero, List.set_cons_succ])
      | (refine mv_free _ (Or.inr ⟨by rfl, rfl⟩) (⟨q0, q1⟩) ?_
         simp only [Act.put, List.setIfInBounds_toArray, List.set_cons_zero, List.set_cons_succ])
  iterate 1
    first
      | (refine mv_take ?_ (Or.inl ⟨by rfl, ?_⟩) (⟨q0, q1⟩) ?_
         rotate_left 1
         · intro u hu
           (try dsimp only at hu)
           go_simp
           try with_reducible rfl
         simp only [Act.put, List.setIfInBounds_toArray, List.set_cons_zero, List.set_cons_succ])
      | (refine mv_take _ (Or.inr ⟨by rfl, rfl⟩) (⟨q0, q1⟩) ?_
         simp only [Act.put, List.setIfInBounds_toArray, List.set_cons_zero, List.set_cons_succ])
  iterate 1
    first
      | (refine mv_free ?_ (Or.inl ⟨by rfl, ?_⟩) (⟨q0, q1⟩) ?_
         rotate_left 1
         · intro u
           go_simp
           try simp only [d1]
           try simp only [d2]
           try simp only [d3]
           try with_reducible rfl
         simp only [Act.put, List.setIfInBounds_toArray, List.set_cons_zero, List.set_cons_succ])
      | (refine mv_free _ (Or.inr ⟨by rfl, rfl⟩) (⟨q0, q1⟩) ?_
         simp only [Act.put, List.setIfInBounds_toArray, List.set_cons_zero, List.set_cons_succ])
  refine mv_done ?_
  go_wp2
  go_end0
  exact ⟨rfl, _, TU.out.drew, PU.out.drew, XU.out⟩
set_option maxRecDepth 100000 in
set_option maxHeartbeats 8000000 in
theorem trputx_full {B b : Nat} {sz : Int} {L : List Int} {x : Value} (h : Int) (w : World) (hX : TrX B b sz L x w) (hl : (L.length : Int) = sz) : Calls Try.prog 17 #[.pointer (some ⟨b, 0, none⟩), .int .i64 h] w fun e w' => e = .returned (.tuple #[]) ∧ ∃ x', TrX B b sz ((L ++ [trH h]).drop 1) x' w' ∧ PK b x w w' ∧ (owB x' = owB x ∨ ∃ g, owB x' = some g ∧ w.heap.size ≤ g) := by
  have hT := hX.t
  have s1 := hT.s1
  have s2 := hT.s2
  have hbd := hT.bd
  have hlen := hT.len
  have hBB := hT.hB
  obtain ⟨hh, ho, hn, -⟩ := hX
  have hlt := hh.lt
  obtain ⟨m, em⟩ : ∃ m, m = (if h < -100000000 then (-100000000 : Int) else h) := ⟨_, rfl⟩
  obtain ⟨c, ec⟩ : ∃ c, c = trH h := ⟨_, rfl⟩
  have w1 : (if h < -100000000 then (-100000000 : Int) else h) = m := em.symm
  have w2 : (if 100000000 < m then (100000000 : Int) else m) = c := by rw [ec]; unfold trH; omega
  have hcb : -100000000 ≤ c ∧ c ≤ 100000000 := by rw [ec]; exact trH_bd h
  rw [← ec]
  have NB := Lib.hid (show ∀ i, i < (L ++ [c]).length → -100000000 ≤ (L ++ [c]).getD i 0 ∧ (L ++ [c]).getD i 0 ≤ 100000000 from fun i hi => by
    by_cases hi' : i < L.length
    · rw [show (L ++ [c]).getD i 0 = L.getD i 0 from by simp [List.getD, List.getElem?_append_left hi']]
      exact hbd i hi'
    · have e : i = L.length := by simp at hi; omega
      rw [show (L ++ [c]).getD i 0 = c from by simp [List.getD, e]]
      exact hcb)
  have hln : ((L ++ [c]).length : Int) = (L.length : Int) + 1 := by simp
  have hll : (L ++ [c]).length = L.length + 1 := by simp
  have hbA := (Below.refl w.heap.size w).alloc (Nat.le_refl _) (.cells #[.int .i64 c] 2)
  have HA := Lib.hid hbA
  have HS := Lib.hid (show w.heap.size ≤ (w.alloc (.cells #[.int .i64 c] 2)).heap.size from by simp)
  have hOA := Lib.hid (ho.bel hbA)
  have hBA := Lib.hid (show B ≤ (w.alloc (.cells #[.int .i64 c] 2)).heap.size from by simp; omega)
  have HK := Lib.hid (fun w9 (k : OwK x (w.alloc (.cells #[.int .i64 c] 2)) w9) => show Held b [.int .i64 sz, x] w9 ∧ Below B w w9 ∧ b < w9.heap.size from by
    have e : w9.heap[b]? = w.heap[b]? := (k.block b (by simp; omega) hn).trans (hbA.block b hlt)
    have hz : w.heap.size ≤ w9.heap.size := Nat.le_trans (by simp) k.size
    exact ⟨⟨by omega, fun i v hv => (World.cell?_of_block (a := ⟨b, i, none⟩) e).trans (hh.c i v hv), fun i hi => (World.frozen?_of_block (a := ⟨b, i, none⟩) e).trans (hh.f i hi)⟩, (hbA.mono hBB.2).trans (k.below hOA.out hBA.out), by omega⟩)
  have NE := Lib.hid (fun x2 (q : owB x2 = owB x ∨ ∃ g, owB x2 = some g ∧ (w.alloc (.cells #[.int .i64 c] 2)).heap.size ≤ g) => show owB x2 ≠ some b from by
    rcases q with e | ⟨g, e, hg⟩
    · rw [e]; exact hn
    · rw [e]
      intro e2
      injection e2 with e2
      simp at hg
      omega)
  have hc1 := hh.c 1 _ rfl
  clear em ec hbd hcb ho hT hh hlt hn hbA
  replace hBB := Lib.hid hBB
  go_enter Try.func17, Try.ntmps17
  go_upto_region 2 with (first | (at_builtin; refine wpList_append_ow _ rfl (.tmp 10) (.tmp 14) rfl B x L c rfl hOA.out hBA.out _ rfl (by go_simp) (by omega) ?_; intro x2 w9 hO9 hk9 hx9; obtain ⟨ao, cap, rfl, -, -⟩ := hO9.row; rw [hll] at hO9 hx9; obtain ⟨hH9, hb9, hl9⟩ := HK.out _ hk9; have g1 := hH9.f 1 (by simp); have k1 := hH9.c 1 _ rfl; have k0 := hH9.c 0 _ rfl))
  have hne2 := NE.out (.slice ao (L.length + 1) cap) hx9
  obtain ⟨U, eU, hHU, hOU⟩ : ∃ U, U = w9.setCell ⟨b, 1, none⟩ (.slice ao (L.length + 1) cap) ∧ Held b [.int .i64 sz, (.slice ao (L.length + 1) cap)] U ∧ Only b w9 U := ⟨_, rfl, hH9.set 1 (.slice ao (L.length + 1) cap) (by simp), (Only.refl b w9).setCell (p := ⟨b, 1, none⟩) (.slice ao (L.length + 1) cap)⟩
  have hO10 := hO9.kept (w' := U) (fun g q hg => hOU.block g (fun e => hne2 (by rw [q, e])))
  have PU := Lib.hid (pk1 HA.out hk9 hOU)
  have XU := Lib.hid (show owB (.slice ao (L.length + 1) cap) = owB x ∨ ∃ g, owB (.slice ao (L.length + 1) cap) = some g ∧ w.heap.size ≤ g from hx9.elim .inl (fun ⟨g, e, hg⟩ => .inr ⟨g, e, Nat.le_trans HS.out hg⟩))
  have hb10 := hb9.trans (hOU.below hBB.out.1)
  have hBU : B ≤ U.heap.size := Nat.le_trans hBB.out.2 hb10.size
  have hDH := Lib.hid hHU.drew
  have hDO := Lib.hid (show Ow B (.slice ao (L.length + 1) cap) (L ++ [c]) U.drew from hO10)
  have hDN := Lib.hid hne2
  have hDB := Lib.hid (show Below B w U.drew ∧ B ≤ U.drew.heap.size from ⟨hb10.drew, hBU⟩)
  have DL := Lib.hid (trdel U.drew hDO.out (by omega) (by omega))
  have q0 := hHU.c 0 _ rfl
  have q1 := hHU.c 1 _ rfl
  rw [← eU]
  replace eU := Lib.hid eU
  clear hb10 hBU
  clear hk9 hx9 hO9 hH9 hb9 hl9 g1 k1 k0 hne2 hHU hOU hO10
  have d1 : decide (sz < ((L ++ [c]).length : Int)) = true := by simp only [hln]; simp; omega
  have d2 : sz < ((L ++ [c]).length : Int) := by omega
  have d3 : decide (sz < (L.length : Int) + 1) = true := by simp; omega
  go_wp2_with fail
  refine region_moves (fun u => u.cell? ⟨b, 0, none⟩ = some (.int .i64 sz) ∧ u.cell? ⟨b, 1, none⟩ = some (.slice ao (L.length + 1) cap)) [] [(.free, 0), (.free, 1), (.free, 2), (.take, 3), (.free, 4), (.free, 5), (.free, 6), (.free, 7), (.take, 8), (.free, 9)] _ (by kernel_rfl) (by kernel_rfl) (by kernel_rfl) (by kernel_rfl) (by decide) rfl (fun _ _ _ _ _ h => h) ?_
  simp only [List.filterMap_cons, List.filterMap_nil, List.getElem?_toArray, List.getElem?_cons_zero, List.getElem?_cons_succ, Option.map_some]
  iterate 3
    first
      | (refine mv_free ?_ (Or.inl ⟨by rfl, ?_⟩) (⟨q0, q1⟩) ?_
         rotate_left 1
         · intro u
           go_simp
           try simp only [d1]
           try simp only [d2]
           try simp only [d3]
           try with_reducible rfl
         simp only [Act.put, List.setIfInBounds_toArray, List.set_cons_zero, List.set_cons_succ])
      | (refine mv_free _ (Or.inr ⟨by rfl, rfl⟩) (⟨q0, q1⟩) ?_
         simp only [Act.put, List.setIfInBounds_toArray, List.set_cons_zero, List.set_cons_succ])
  iterate 1
    first
      | (refine mv_take ?_ (Or.inl ⟨by rfl, ?_⟩) (⟨q0, q1⟩) ?_
         rotate_left 1
         · intro u hu
           (try dsimp only at hu)
           go_simp
           try with_reducible rfl
         simp only [Act.put, List.setIfInBounds_toArray, List.set_cons_zero, List.set_cons_succ])
      | (refine mv_take _ (Or.inr ⟨by rfl, rfl⟩) (⟨q0, q1⟩) ?_
         simp only [Act.put, List.setIfInBounds_toArray, List.set_cons_zero, List.set_cons_succ])
  iterate 4
    first
      | (refine mv_free ?_ (Or.inl ⟨by rfl, ?_⟩) (⟨q0, q1⟩) ?_
         rotate_left 1
         · intro u
           go_simp
           try simp only [d1]
           try simp only [d2]
           try simp only [d3]
           try with_reducible rfl
         simp only [Act.put, List.setIfInBounds_toArray, List.set_cons_zero, List.set_cons_succ])
      | (refine mv_free _ (Or.inr ⟨by rfl, rfl⟩) (⟨q0, q1⟩) ?_
         simp only [Act.put, List.setIfInBounds_toArray, List.set_cons_zero, List.set_cons_succ])
  iterate 1
    first
      | (refine mv_take ?_ (Or.inl ⟨by rfl, ?_⟩) (⟨q0, q1⟩) ?_
         rotate_left 1
         · intro u hu
           (try dsimp only at hu)
           go_simp
           try with_reducible rfl
         simp only [Act.put, List.setIfInBounds_toArray, List.set_cons_zero, List.set_cons_succ])
      | (refine mv_take _ (Or.inr ⟨by rfl, rfl⟩) (⟨q0, q1⟩) ?_
         simp only [Act.put, List.setIfInBounds_toArray, List.set_cons_zero, List.set_cons_succ])
  iterate 1
    first
      | (refine mv_free ?_ (Or.inl ⟨by rfl, ?_⟩) (⟨q0, q1⟩) ?_
         rotate_left 1
         · intro u
           go_simp
           try simp only [d1]
           try simp only [d2]
           try simp only [d3]
           try with_reducible rfl
         simp only [Act.put, List.setIfInBounds_toArray, List.set_cons_zero, List.set_cons_succ])
      | (refine mv_free _ (Or.inr ⟨by rfl, rfl⟩) (⟨q0, q1⟩) ?_
         simp only [Act.put, List.setIfInBounds_toArray, List.set_cons_zero, List.set_cons_succ])
  refine mv_done ?_
  go_wp2_with fail
  refine DL.out.mono ?_
  rintro e w11 ⟨x3, rfl, hO11, hk11, hx11⟩
  have hl2 : ((L ++ [c]).drop 1).length = L.length := by simp
  obtain ⟨ao3, cap3, rfl, -, -⟩ := hO11.row
  rw [hl2] at hO11 hx11
  have hH11 := hDH.out.ow hk11 hDN.out
  have hne3 : owB (.slice ao3 L.length cap3) ≠ some b := by rw [hx11]; exact hDN.out
  have hb11 := hDB.out.1.trans (hk11.below hDO.out hDB.out.2)
  obtain ⟨r1, r2⟩ := hH11.one 1 rfl
  obtain ⟨U2, eU2, hHU2, hOU2⟩ : ∃ U2, U2 = w11.setCell ⟨b, 1, none⟩ (.slice ao3 L.length cap3) ∧ Held b [.int .i64 sz, (.slice ao3 L.length cap3)] U2 ∧ Only b w11 U2 := ⟨_, rfl, hH11.set 1 (.slice ao3 L.length cap3) (by simp), (Only.refl b w11).setCell (p := ⟨b, 1, none⟩) (.slice ao3 L.length cap3)⟩
  have hO12 := hO11.kept (w' := U2) (fun g q hg => hOU2.block g (fun e => hne3 (by rw [q, e])))
  have hb12 := hb11.trans (hOU2.below hBB.out.1)
  have hT := Lib.hid (show Tr B b sz ((L ++ [c]).drop 1) U2 from ⟨⟨_, hHU2, hO12, hne3⟩, ⟨hBB.out.1, Nat.le_trans hBB.out.2 hb12.size⟩, s1, s2, by rw [hl2]; omega, fun i hi => by
    have e : ((L ++ [c]).drop 1).getD i 0 = (L ++ [c]).getD (i + 1) 0 := by simp only [List.getD, List.getElem?_drop, Nat.add_comm]
    rw [e]
    exact NB.out (i + 1) (by rw [hl2] at hi; omega)⟩)
  have TU := Lib.hid (show TrX B b sz ((L ++ [c]).drop 1) _ U2 from ⟨hHU2, hO12, hne3, hT.out⟩)
  have PU2 := Lib.hid (pk2 PU.out.drew XU.out hk11 hOU2)
  have XU2 := Lib.hid (show owB (.slice ao3 L.length cap3) = owB x ∨ ∃ g, owB (.slice ao3 L.length cap3) = some g ∧ w.heap.size ≤ g from by rw [hx11]; exact XU.out)
  replace eU2 := Lib.hid eU2
  replace hb12 := Lib.hid hb12
  clear hHU2 hOU2 hO12 hb11 hO11 hk11 hx11 hH11 hne3
  go_wp2
  try rw [← eU2.out]
  go_end0
  exact ⟨rfl, _, TU.out, PU2.out, XU2.out⟩
theorem trputx_all {B b : Nat} {sz : Int} {L : List Int} {x : Value} (h : Int) (w : World) (hX : TrX B b sz L x w) : Calls Try.prog 17 #[.pointer (some ⟨b, 0, none⟩), .int .i64 h] w fun e w' => e = .returned (.tuple #[]) ∧ ∃ x', TrX B b sz (trN sz L h) x' w' ∧ PK b x w w' ∧ (owB x' = owB x ∨ ∃ g, owB x' = some g ∧ w.heap.size ≤ g) := by
  have hl := hX.t.len
  unfold trN
  split
  · exact trputx h w hX (by omega)
  · exact trputx_full h w hX (by omega)
end Go.Proofs.Yticecjjlafmclaa
