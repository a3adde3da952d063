/- A trend: its object; fewer than two values; Put where nothing falls out; the chapter's example; the law TrendNew; walked. -/
import Derived.Test.YticecjjlafmclaaNum
import Derived.Test.YticecjjlafmclaaOw
import Derived.Test.YticecjjlafmclaaHb
import Derived.Test.YticecjjlafmclaaReg
import Derived.Deep.Cut
namespace Go.Proofs.Yticecjjlafmclaa
open Go.ChangeShapes Go.WideShapes Go.ChangeAt Go.RowKit
set_option linter.unusedVariables false
set_option linter.unusedSimpArgs false

/-- A trend of so many values at most, with these. -/
structure Tr (B b : Nat) (sz : Int) (L : List Int) (w : World) : Prop where
  ex : ∃ x : Value, Held b [.int .i64 sz, x] w ∧ Ow B x L w ∧ owB x ≠ some b
  hB : B ≤ b ∧ B ≤ w.heap.size
  s1 : 2 ≤ sz
  s2 : sz ≤ 64
  len : (L.length : Int) ≤ sz
  bd : ∀ i, i < L.length → -100000000 ≤ L.getD i 0 ∧ L.getD i 0 ≤ 100000000
theorem Tr.bel {B b : Nat} {sz : Int} {L : List Int} {w w' : World} (h : Tr B b sz L w) (k : Below w.heap.size w w') : Tr B b sz L w' := by
  obtain ⟨x, hh, ho, hn⟩ := h.ex
  exact ⟨⟨x, hh.bel k, ho.bel k, hn⟩, ⟨h.hB.1, Nat.le_trans h.hB.2 k.size⟩, h.s1, h.s2, h.len, h.bd⟩
set_option maxRecDepth 100000 in
set_option maxHeartbeats 8000000 in
theorem trnew_no (sz : Int) (w : World) (h : sz < 2 ∨ 64 < sz) : Calls Try.prog 16 #[.int .i64 sz] w fun e w' => e = .returned (.tuple #[.pointer none, .int .i64 2]) ∧ w = w' := by
  rcases (show sz < 2 ∨ (2 ≤ sz ∧ 64 < sz) by omega) with g | ⟨g, g2⟩
  all_goals
    clear h
    go_enter Try.func16, Try.ntmps16
    go_wp2
    go_ret2
    exact ⟨rfl, rfl⟩
set_option maxRecDepth 100000 in
set_option maxHeartbeats 8000000 in
theorem trnew_ok (sz : Int) (w : World) (h : 2 ≤ sz ∧ sz ≤ 64) : Calls Try.prog 16 #[.int .i64 sz] w fun e w' => ∃ b, w.heap.size ≤ b ∧ e = .returned (.tuple #[.pointer (some ⟨b, 0, none⟩), .int .i64 0]) ∧ Tr w.heap.size b sz [] w' ∧ Below w.heap.size w w' := by
  obtain ⟨g, g2⟩ := h
  go_enter Try.func16, Try.ntmps16
  go_wp2
  go_ret2
  exact ⟨w.heap.size, Nat.le_refl _, rfl, ⟨⟨.slice none 0 0, Held.new w [.int .i64 sz, .slice none 0 0] _, Ow.nil _ _, fun e => by cases e⟩, ⟨Nat.le_refl _, by simp⟩, g, g2, by show (0 : Int) ≤ sz; omega, fun i hi => absurd hi (Nat.not_lt_zero _)⟩, (by repeat (first | exact Below.refl _ _ | assumption | apply Below.drew | apply below_drewN | (refine Below.alloc ?_ (by first | exact Nat.le_refl _ | omega | (simp <;> omega)) _) | (refine Below.setCell ?_ (by first | exact Nat.le_refl _ | omega | (simp <;> omega)) _)))⟩
theorem Tr.drew {B b : Nat} {sz : Int} {L : List Int} {w : World} (h : Tr B b sz L w) : Tr B b sz L w.drew := by
  obtain ⟨x, hh, ho, hn⟩ := h.ex
  exact ⟨⟨x, hh.drew, ho, hn⟩, h.hB, h.s1, h.s2, h.len, h.bd⟩
theorem trlen {B b : Nat} {sz : Int} {L : List Int} (w : World) (h : Tr B b sz L w) : Calls Try.prog 23 #[.pointer (some ⟨b, 0, none⟩)] w fun e w' => e = .returned (.int .i64 (L.length : Int)) ∧ w = w' := by
  obtain ⟨x, hh, ho, hn⟩ := h.ex
  obtain ⟨ao, cap, rfl, -, -⟩ := ho.row
  have c1 := hh.c 1 _ rfl
  clear hh ho hn h
  go_enter Try.func23, Try.ntmps23
  go_wp2
  go_ret
  exact ⟨rfl, rfl⟩
theorem trlen_nil (w : World) : Calls Try.prog 23 #[.pointer none] w fun e w' => e = .returned (.int .i64 0) ∧ w = w' := by
  go_enter Try.func23, Try.ntmps23
  go_wp2
  go_ret
  exact ⟨rfl, rfl⟩
/-- Of this pointer Len tells fewer than two. -/
def FewP (P : Value) (w : World) : Prop := ∃ n : Int, n < 2 ∧ ∀ u, Below w.heap.size w u → Calls Try.prog 23 #[P] u fun e w' => e = .returned (.int .i64 n) ∧ u = w'
theorem few_nil (w : World) : FewP (.pointer none) w := ⟨0, by omega, fun u _ => trlen_nil u⟩
theorem few_tr {B b : Nat} {sz : Int} {L : List Int} {w : World} (h : Tr B b sz L w) (h2 : L.length < 2) : FewP (.pointer (some ⟨b, 0, none⟩)) w := ⟨(L.length : Int), by omega, fun u k => trlen u (h.bel k)⟩
theorem FewP.bel {P : Value} {w w' : World} (h : FewP P w) (k : Below w.heap.size w w') : FewP P w' := by
  obtain ⟨n, hn, hl⟩ := h
  exact ⟨n, hn, fun u q => hl u (k.trans (q.mono k.size))⟩
set_option maxRecDepth 100000 in
set_option maxHeartbeats 8000000 in
theorem trslope_few (P : Value) (w : World) (h : FewP P w) : Calls Try.prog 19 #[P] w fun e w' => e = .returned (.tuple #[.int .i64 0, .bool false]) ∧ w = w' := by
  obtain ⟨n, hn, hl⟩ := h
  have L := Lib.hid (hl w (Below.refl _ _))
  clear hl
  go_enter Try.func19, Try.ntmps19
  go_wp2_with fail
  refine L.out.mono ?_
  rintro e w1 ⟨rfl, rfl⟩
  go_wp2
  go_ret2
  exact ⟨rfl, rfl⟩
set_option maxRecDepth 100000 in
set_option maxHeartbeats 8000000 in
theorem trmiddle_few (P : Value) (w : World) (h : FewP P w) : Calls Try.prog 20 #[P] w fun e w' => e = .returned (.tuple #[.int .i64 0, .bool false]) ∧ w = w' := by
  obtain ⟨n, hn, hl⟩ := h
  have L := Lib.hid (hl w (Below.refl _ _))
  clear hl
  go_enter Try.func20, Try.ntmps20
  go_wp2_with fail
  refine L.out.mono ?_
  rintro e w1 ⟨rfl, rfl⟩
  go_wp2
  go_ret2
  exact ⟨rfl, rfl⟩
set_option maxRecDepth 100000 in
set_option maxHeartbeats 8000000 in
theorem trline_few (P : Value) (w : World) (h : FewP P w) : Calls Try.prog 41 #[P] w fun e w' => e = .returned (.tuple #[.nilFunc, .bool false]) ∧ Below w.heap.size w w' := by
  have S := Lib.hid (trslope_few P w h)
  clear h
  go_enter Try.func41, Try.ntmps41
  go_wp2_with fail
  refine S.out.mono ?_
  rintro e w1 ⟨rfl, rfl⟩
  go_wp2
  go_ret2
  exact ⟨rfl, (by repeat (first | exact Below.refl _ _ | assumption | apply Below.drew | apply below_drewN | (refine Below.alloc ?_ (by first | exact Nat.le_refl _ | omega | (simp <;> omega)) _) | (refine Below.setCell ?_ (by first | exact Nat.le_refl _ | omega | (simp <;> omega)) _)))⟩
set_option maxRecDepth 100000 in
set_option maxHeartbeats 8000000 in
theorem trat_few (x : Int) (P : Value) (w : World) (h : FewP P w) : Calls Try.prog 21 #[P, .int .i64 x] w fun e w' => e = .returned (.tuple #[.int .i64 0, .bool false]) ∧ Below w.heap.size w w' := by
  have S := Lib.hid (trline_few P w h)
  clear h
  go_enter Try.func21, Try.ntmps21
  go_wp2_with fail
  refine S.out.mono ?_
  rintro e w1 ⟨rfl, hb1⟩
  go_wp2
  go_ret2
  exact ⟨rfl, hb1⟩
set_option maxRecDepth 100000 in
set_option maxHeartbeats 8000000 in
theorem trworst_few (P : Value) (w : World) (h : FewP P w) : Calls Try.prog 22 #[P] w fun e w' => e = .returned (.tuple #[.int .i64 0, .bool false]) ∧ Below w.heap.size w w' := by
  have S := Lib.hid (trline_few P w h)
  clear h
  go_enter Try.func22, Try.ntmps22
  go_wp2_with fail
  refine S.out.mono ?_
  rintro e w1 ⟨rfl, hb1⟩
  go_wp2
  go_ret2
  exact ⟨rfl, hb1⟩
set_option maxRecDepth 100000 in
set_option maxHeartbeats 8000000 in
theorem trout_few (x : Int) (P : Value) (w : World) (h : FewP P w) : Calls Try.prog 24 #[P, .int .i64 x] w fun e w' => e = .returned (.slice none 0 0) ∧ Below w.heap.size w w' := by
  have S := Lib.hid (trline_few P w h)
  clear h
  go_enter Try.func24, Try.ntmps24
  go_wp2_with fail
  refine S.out.mono ?_
  rintro e w1 ⟨rfl, hb1⟩
  go_wp2
  go_ret
  exact ⟨rfl, hb1⟩
set_option maxRecDepth 100000 in
set_option maxHeartbeats 8000000 in
theorem trput_nil (h : Int) (w : World) : Calls Try.prog 17 #[.pointer none, .int .i64 h] w fun e w' => e = .returned (.tuple #[]) ∧ w = w' := by
  go_enter Try.func17, Try.ntmps17
  go_wp2
  refine bodyPost_ret (results_none rfl _ _ _) rfl ⟨rfl, rfl⟩
theorem trreset_nil (w : World) : Calls Try.prog 18 #[.pointer none] w fun e w' => e = .returned (.tuple #[]) ∧ w = w' := by
  go_enter Try.func18, Try.ntmps18
  go_wp2
  go_end0
  exact ⟨rfl, rfl⟩
/-- A value that may be. -/
def trH (h : Int) : Int := min (max h (-100000000)) 100000000
theorem trH_bd (h : Int) : -100000000 ≤ trH h ∧ trH h ≤ 100000000 := by unfold trH; omega
set_option maxRecDepth 100000 in
set_option maxHeartbeats 8000000 in
theorem trput {B b : Nat} {sz : Int} {L : List Int} (h : Int) (w : World) (hT : Tr B b sz L w) (hl : (L.length : Int) + 1 ≤ sz) : Calls Try.prog 17 #[.pointer (some ⟨b, 0, none⟩), .int .i64 h] w fun e w' => e = .returned (.tuple #[]) ∧ Tr B b sz (L ++ [trH h]) w' ∧ Below B w w' := by
  have s1 := hT.s1
  have s2 := hT.s2
  have hbd := hT.bd
  have hlen := hT.len
  have hBB := hT.hB
  obtain ⟨x, hh, ho, hn⟩ := hT.ex
  have hlt := hh.lt
  obtain ⟨m, em⟩ : ∃ m, m = (if h < -100000000 then (-100000000 : Int) else h) := ⟨_, rfl⟩
  obtain ⟨c, ec⟩ : ∃ c, c = trH h := ⟨_, rfl⟩
  have w1 : (if h < -100000000 then (-100000000 : Int) else h) = m := em.symm
  have w2 : (if 100000000 < m then (100000000 : Int) else m) = c := by rw [ec]; unfold trH; omega
  have hcb : -100000000 ≤ c ∧ c ≤ 100000000 := by rw [ec]; exact trH_bd h
  rw [← ec]
  have NB := Lib.hid (show ∀ i, i < (L ++ [c]).length → -100000000 ≤ (L ++ [c]).getD i 0 ∧ (L ++ [c]).getD i 0 ≤ 100000000 from fun i hi => by
    by_cases hi' : i < L.length
    · rw [show (L ++ [c]).getD i 0 = L.getD i 0 from by simp [List.getD, List.getElem?_append_left hi']]
      exact hbd i hi'
    · have e : i = L.length := by simp at hi; omega
      rw [show (L ++ [c]).getD i 0 = c from by simp [List.getD, e]]
      exact hcb)
  have hln : ((L ++ [c]).length : Int) = (L.length : Int) + 1 := by simp
  have hll : (L ++ [c]).length = L.length + 1 := by simp
  have hbA := (Below.refl w.heap.size w).alloc (Nat.le_refl _) (.cells #[.int .i64 c] 2)
  have hOA := Lib.hid (ho.bel hbA)
  have hBA := Lib.hid (show B ≤ (w.alloc (.cells #[.int .i64 c] 2)).heap.size from by simp; omega)
  have HK := Lib.hid (fun w9 (k : OwK x (w.alloc (.cells #[.int .i64 c] 2)) w9) => show Held b [.int .i64 sz, x] w9 ∧ Below B w w9 ∧ b < w9.heap.size from by
    have e : w9.heap[b]? = w.heap[b]? := (k.block b (by simp; omega) hn).trans (hbA.block b hlt)
    have hz : w.heap.size ≤ w9.heap.size := Nat.le_trans (by simp) k.size
    exact ⟨⟨by omega, fun i v hv => (World.cell?_of_block (a := ⟨b, i, none⟩) e).trans (hh.c i v hv), fun i hi => (World.frozen?_of_block (a := ⟨b, i, none⟩) e).trans (hh.f i hi)⟩, (hbA.mono hBB.2).trans (k.below hOA.out hBA.out), by omega⟩)
  have NE := Lib.hid (fun x2 (q : owB x2 = owB x ∨ ∃ g, owB x2 = some g ∧ (w.alloc (.cells #[.int .i64 c] 2)).heap.size ≤ g) => show owB x2 ≠ some b from by
    rcases q with e | ⟨g, e, hg⟩
    · rw [e]; exact hn
    · rw [e]
      intro e2
      injection e2 with e2
      simp at hg
      omega)
  have hc1 := hh.c 1 _ rfl
  clear em ec hbd hcb ho hT hh hlt hn hbA
  replace hBB := Lib.hid hBB
  go_enter Try.func17, Try.ntmps17
  go_upto_region 2 with (first | (at_builtin; refine wpList_append_ow _ rfl (.tmp 10) (.tmp 14) rfl B x L c rfl hOA.out hBA.out _ rfl (by go_simp) (by omega) ?_; intro x2 w9 hO9 hk9 hx9; obtain ⟨ao, cap, rfl, -, -⟩ := hO9.row; rw [hll] at hO9 hx9; obtain ⟨hH9, hb9, hl9⟩ := HK.out _ hk9; have g1 := hH9.f 1 (by simp); have k1 := hH9.c 1 _ rfl; have k0 := hH9.c 0 _ rfl))
  have hne2 := NE.out (.slice ao (L.length + 1) cap) hx9
  obtain ⟨U, eU, hHU, hOU⟩ : ∃ U, U = w9.setCell ⟨b, 1, none⟩ (.slice ao (L.length + 1) cap) ∧ Held b [.int .i64 sz, (.slice ao (L.length + 1) cap)] U ∧ Only b w9 U := ⟨_, rfl, hH9.set 1 (.slice ao (L.length + 1) cap) (by simp), (Only.refl b w9).setCell (p := ⟨b, 1, none⟩) (.slice ao (L.length + 1) cap)⟩
  have hO10 := hO9.kept (w' := U) (fun g q hg => hOU.block g (fun e => hne2 (by rw [q, e])))
  have hb10 := hb9.trans (hOU.below hBB.out.1)
  have hT := Lib.hid (show Tr B b sz (L ++ [c]) U from ⟨⟨_, hHU, hO10, hne2⟩, ⟨hBB.out.1, Nat.le_trans hBB.out.2 hb10.size⟩, s1, s2, by rw [hln]; exact hl, NB.out⟩)
  have q0 := hHU.c 0 _ rfl
  have q1 := hHU.c 1 _ rfl
  rw [← eU]
  replace eU := Lib.hid eU
  replace hb10 := Lib.hid hb10
  clear hk9 hx9 hO9 hH9 hb9 hl9 g1 k1 k0 hne2 hHU hOU hO10
  have d1 : decide (sz < ((L ++ [c]).length : Int)) = false := by simp only [hln]; simp; omega
  have d2 : ¬ sz < ((L ++ [c]).length : Int) := by omega
  have d3 : decide (sz < (L.length : Int) + 1) = false := by simp; omega
  go_wp2_with fail
  refine region_moves (fun u => u.cell? ⟨b, 0, none⟩ = some (.int .i64 sz) ∧ u.cell? ⟨b, 1, none⟩ = some (.slice ao (L.length + 1) cap)) [] [(.free, 0), (.free, 1), (.free, 2), (.take, 3), (.free, 4), (.free, 5), (.free, 6), (.free, 7), (.take, 8), (.free, 9)] _ (by kernel_rfl) (by kernel_rfl) (by kernel_rfl) (by kernel_rfl) (by decide) rfl (fun _ _ _ _ _ h => h) ?_
  simp only [List.filterMap_cons, List.filterMap_nil, List.getElem?_toArray, List.getElem?_cons_zero, List.getElem?_cons_succ, Option.map_some]
  iterate 3
    first
      | (refine mv_free ?_ (Or.inl ⟨by rfl, ?_⟩) (⟨q0, q1⟩) ?_
         rotate_left 1
         · intro u
           go_simp
           try simp only [d1]
           try simp only [d2]
           try simp only [d3]
           try with_reducible rfl
         simp only [Act.put, List.setIfInBounds_toArray, List.set_cons_zero, List.set_cons_succ])
      | (refine mv_free _ (Or.inr ⟨by rfl, rfl⟩) (⟨q0, q1⟩) ?_
         simp only [Act.put, List.setIfInBounds_toArray, List.set_cons_zero, List.set_cons_succ])
  iterate 1
    first
      | (refine mv_take ?_ (Or.inl ⟨by rfl, ?_⟩) (⟨q0, q1⟩) ?_
         rotate_left 1
         · intro u hu
           (try dsimp only at hu)
           go_simp
           try with_reducible rfl
         simp only [Act.put, List.setIfInBounds_toArray, List.set_cons_zero, List.set_cons_succ])
      | (refine mv_take _ (Or.inr ⟨by rfl, rfl⟩) (⟨q0, q1⟩) ?_
         simp only [Act.put, List.setIfInBounds_toArray, List.set_cons_zero, List.set_cons_succ])
  iterate 4
    first
      | (refine mv_free ?_ (Or.inl ⟨by rfl, ?_⟩) (⟨q0, q1⟩) ?_
         rotate_left 1
         · intro u
           go_simp
           try simp only [d1]
           try simp only [d2]
           try simp only [d3]
           try with_reducible rfl
         simp only [Act.put, List.setIfInBounds_toArray, List.set_cons_zero, List.set_cons_succ])
      | (refine mv_free _ (Or.inr ⟨by rfl, rfl⟩) (⟨q0, q1⟩) ?_
         simp only [Act.put, List.setIfInBounds_toArray, List.set_cons_zero, List.set_cons_succ])
  iterate 1
    first
      | (refine mv_take ?_ (Or.inl ⟨by rfl, ?_⟩) (⟨q0, q1⟩) ?_
         rotate_left 1
         · intro u hu
           (try dsimp only at hu)
           go_simp
           try with_reducible rfl
         simp only [Act.put, List.setIfInBounds_toArray, List.set_cons_zero, List.set_cons_succ])
      | (refine mv_take _ (Or.inr ⟨by rfl, rfl⟩) (⟨q0, q1⟩) ?_
         simp only [Act.put, List.setIfInBounds_toArray, List.set_cons_zero, List.set_cons_succ])
  iterate 1
    first
      | (refine mv_free ?_ (Or.inl ⟨by rfl, ?_⟩) (⟨q0, q1⟩) ?_
         rotate_left 1
         · intro u
           go_simp
           try simp only [d1]
           try simp only [d2]
           try simp only [d3]
           try with_reducible rfl
         simp only [Act.put, List.setIfInBounds_toArray, List.set_cons_zero, List.set_cons_succ])
      | (refine mv_free _ (Or.inr ⟨by rfl, rfl⟩) (⟨q0, q1⟩) ?_
         simp only [Act.put, List.setIfInBounds_toArray, List.set_cons_zero, List.set_cons_succ])
  refine mv_done ?_
  go_wp2
  go_end0
  exact ⟨rfl, hT.out.drew, hb10.out.drew⟩
def tsY (L : List Int) : Nat → Int
  | 0 => 0
  | k + 1 => tsY L k + L.getD k 0
def tsX (L : List Int) : Nat → Int
  | 0 => 0
  | k + 1 => tsX L k + (k : Int) * L.getD k 0
theorem ts_bd {L : List Int} (h : ∀ i, i < L.length → -100000000 ≤ L.getD i 0 ∧ L.getD i 0 ≤ 100000000) (h64 : L.length ≤ 64) : ∀ k, k ≤ L.length → -(100000000 * (k : Int)) ≤ tsY L k ∧ tsY L k ≤ 100000000 * (k : Int) ∧ -(6400000000 * (k : Int)) ≤ tsX L k ∧ tsX L k ≤ 6400000000 * (k : Int)
  | 0, _ => by simp [tsY, tsX]
  | k + 1, hk => by
    have ih := ts_bd h h64 k (by omega)
    have a := h k (by omega)
    have k0 : (0 : Int) ≤ (k : Int) := by omega
    have u1 : (k : Int) * L.getD k 0 ≤ (k : Int) * 100000000 := Int.mul_le_mul_of_nonneg_left a.2 k0
    have u2 : (k : Int) * (-100000000) ≤ (k : Int) * L.getD k 0 := Int.mul_le_mul_of_nonneg_left a.1 k0
    show _ ≤ tsY L k + L.getD k 0 ∧ tsY L k + L.getD k 0 ≤ _ ∧ _ ≤ tsX L k + (k : Int) * L.getD k 0 ∧ tsX L k + (k : Int) * L.getD k 0 ≤ _
    generalize (k : Int) * L.getD k 0 = P at *
    push_cast
    omega
set_option maxRecDepth 100000 in
set_option maxHeartbeats 8000000 in
theorem trsums {B b : Nat} {sz : Int} {L : List Int} (w : World) (hT : Tr B b sz L w) : Calls Try.prog 39 #[.pointer (some ⟨b, 0, none⟩)] w fun e w' => e = .returned (.tuple #[.int .i64 (tsY L L.length), .int .i64 (tsX L L.length)]) ∧ w = w' := by
  have hlen := hT.len
  have s2 := hT.s2
  have BD := Lib.hid hT.bd
  have TB := Lib.hid (ts_bd hT.bd (by omega))
  obtain ⟨x, hh, ho, hn⟩ := hT.ex
  obtain ⟨ao, cap, rfl, hr, -⟩ := ho.row
  have c1 := hh.c 1 _ rfl
  have l64 : (L.length : Int) ≤ 64 := by omega
  clear hh ho hn hT hlen
  go_enter Try.func39, Try.ntmps39
  go_wp2_with fail
  go_loopw [2, 3, 11] (fun y z i v => ∃ k : Nat, k ≤ L.length ∧ y = .int .i64 (tsY L k) ∧ z = .int .i64 (tsX L k) ∧ i = .int .i64 (k : Int) ∧ w = v) (fun _ _ i _ => L.length - (intOf i).toNat)
  case atStart => exact ⟨0, by omega, rfl, rfl, rfl, rfl⟩
  case round =>
    obtain ⟨k, hk, rfl, rfl, rfl, rfl⟩ := hrel
    by_cases hlt : k < L.length
    · obtain ⟨g, off, rfl, -, hc⟩ := hr.at hlt
      have tb := TB.out k hk
      have a := BD.out k hlt
      have k0 : (0 : Int) ≤ (k : Int) := by omega
      have k1 : (k : Int) < (L.length : Int) := by omega
      have u1 : (k : Int) * L.getD k 0 ≤ (k : Int) * 100000000 := Int.mul_le_mul_of_nonneg_left a.2 k0
      have u2 : (k : Int) * (-100000000) ≤ (k : Int) * L.getD k 0 := Int.mul_le_mul_of_nonneg_left a.1 k0
      have e1 := Lib.hid (show tsY L (k + 1) = tsY L k + L.getD k 0 from rfl)
      have e2 := Lib.hid (show tsX L (k + 1) = tsX L k + (k : Int) * L.getD k 0 from rfl)
      generalize L.getD k 0 = z at *
      generalize tsY L k = y at *
      generalize tsX L k = q at *
      obtain ⟨P, eP⟩ : ∃ P, P = (k : Int) * z := ⟨_, rfl⟩
      rw [← eP] at u1 u2 e2
      have n1 : IntKind.i64.wrap (y + z) = y + z := by rw [IntKind.wrap_i64]; omega
      have n2 : IntKind.i64.wrap ((k : Int) * z) = P := by rw [← eP, IntKind.wrap_i64]; omega
      have n3 : IntKind.i64.wrap (q + P) = q + P := by rw [IntKind.wrap_i64]; omega
      replace eP := Lib.hid eP
      clear u1 u2 tb a
      go_wp2
      go_roundw
      case rel => exact ⟨k + 1, by omega, by rw [e1.out], by rw [e2.out], by go_num, by first | rfl | trivial⟩
      case measure => simp [intOf]; omega
    · have hge : (L.length : Int) ≤ (k : Int) := by omega
      obtain rfl : k = L.length := by omega
      clear hge
      go_wp2
      go_ret2
      exact ⟨rfl, rfl⟩
end Go.Proofs.Yticecjjlafmclaa
