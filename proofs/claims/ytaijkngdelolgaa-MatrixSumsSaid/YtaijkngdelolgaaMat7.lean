/- Package matrix: Add, Sub, Plus. -/
import Derived.Test.YtaijkngdelolgaaMat5
import Derived.Shelf.Abstract
namespace Go.Proofs.Ytaijkngdelolgaa
open Go.ChangeShapes Go.WideShapes Go.ChangeAt Go.RowKit
set_option linter.unusedVariables false
set_option linter.unusedSimpArgs false
def smI (x y : Int) : Int := clp (clp x + clp y)
def sbI (x y : Int) : Int := clp (clp x - clp y)
theorem smI_comm (x y : Int) : smI x y = smI y x := by unfold smI; rw [Int.add_comm]
theorem sbI_self (x : Int) : sbI x x = 0 := by unfold sbI; rw [Int.sub_self]; decide
theorem UnitAt.bl {pu B : Nat} {o : Bool} {u u' : World} (h : UnitAt pu o u) (k : Below B u u') (hb : pu < B) : UnitAt pu o u' := ⟨(k.cell (p := ⟨pu, 0, none⟩) hb).trans h.1, (k.frozen (p := ⟨pu, 0, none⟩) hb).trans h.2⟩
theorem UnitAt.of {pu : Nat} {u : World} (h : Held pu [.int .u32 0] u) : UnitAt pu false u := ⟨h.c 0 _ rfl, h.f 0 (by simp)⟩
set_option maxRecDepth 100000 in
set_option maxHeartbeats 8000000 in
theorem madd1 (pu p q : Nat) (X Y : Nat → Int) (i j : Nat) (u : World) (hi : i < 3) (hj : j < 3) (o : Bool) (h : Held p [.int .i64 (X 0), .int .i64 (X 1), .int .i64 (X 2), .int .i64 (X 3), .int .i64 (X 4), .int .i64 (X 5), .int .i64 (X 6), .int .i64 (X 7), .int .i64 (X 8)] u) (g : Held q [.int .i64 (Y 0), .int .i64 (Y 1), .int .i64 (Y 2), .int .i64 (Y 3), .int .i64 (Y 4), .int .i64 (Y 5), .int .i64 (Y 6), .int .i64 (Y 7), .int .i64 (Y 8)] u) (hu : UnitAt pu o u) (n1 : p ≠ pu) (n2 : q ≠ pu) : Calls Try.prog 52 #[.int .i64 (i : Int), .int .i64 (j : Int), .pointer (some ⟨pu, 0, none⟩), .pointer (some ⟨p, 0, none⟩), .pointer (some ⟨q, 0, none⟩)] u fun e u' => e = .returned (.int .i64 (smI (X (i * 3 + j)) (Y (i * 3 + j)))) ∧ (∃ o', UnitAt pu o' u') ∧ Only pu u u' := by
  have k0 := ml_at h (k := i * 3 + j) (by omega)
  have k1 := ml_at g (k := i * 3 + j) (by omega)
  have hi3 : (i : Int) < 3 := by omega
  have hj3 : (j : Int) < 3 := by omega
  have AD := fun v hv => add_any pu o (X (i * 3 + j)) (Y (i * 3 + j)) v hv
  simp only [show ∀ a b, clp (clp a + clp b) = smI a b from fun _ _ => rfl] at AD
  generalize smI (X (i * 3 + j)) (Y (i * 3 + j)) = r at *
  generalize X (i * 3 + j) = x at *
  generalize Y (i * 3 + j) = y at *
  replace AD := Lib.hid AD
  have hU := Lib.hid hu
  clear h g hu
  go_enter Try.func52, Try.ntmps52
  go_wp2_with fail
  refine region_moves (fun v => v.cell? ⟨p, i * 3 + j, none⟩ = some (.int .i64 x) ∧ v.cell? ⟨q, i * 3 + j, none⟩ = some (.int .i64 y)) [(10, [(4, 10), (9, 10), (3, 4), (8, 9), (2, 3), (1, 3), (7, 8), (6, 8), (0, 2), (5, 7)])] [(.free, 0), (.free, 1), (.free, 2), (.free, 3), (.take, 4), (.free, 5), (.free, 6), (.free, 7), (.free, 8), (.take, 9), (.late, 10), (.free, 11)] _ (by kernel_rfl) (by kernel_rfl) (by kernel_rfl) (by kernel_rfl) (by decide) rfl (fun _ _ _ _ _ h => h) ?_
  simp only [List.filterMap_cons, List.filterMap_nil, List.getElem?_toArray, List.getElem?_cons_zero, List.getElem?_cons_succ, Option.map_some]
  iterate 4
    first
      | (refine mv_free ?_ (Or.inl ⟨by rfl, ?_⟩) (⟨k0, k1⟩) ?_
         rotate_left 1
         · intro u
           go_simp
           try simp only [d1]
           try simp only [d2]
           try simp only [d3]
           try with_reducible rfl
         simp only [Act.put, List.setIfInBounds_toArray, List.set_cons_zero, List.set_cons_succ])
      | (refine mv_free _ (Or.inr ⟨by rfl, rfl⟩) (⟨k0, k1⟩) ?_
         simp only [Act.put, List.setIfInBounds_toArray, List.set_cons_zero, List.set_cons_succ])
  iterate 1
    first
      | (refine mv_take ?_ (Or.inl ⟨by rfl, ?_⟩) (⟨k0, k1⟩) ?_
         rotate_left 1
         · intro u hu
           (try dsimp only at hu)
           go_simp
           try with_reducible rfl
         simp only [Act.put, List.setIfInBounds_toArray, List.set_cons_zero, List.set_cons_succ])
      | (refine mv_take _ (Or.inr ⟨by rfl, rfl⟩) (⟨k0, k1⟩) ?_
         simp only [Act.put, List.setIfInBounds_toArray, List.set_cons_zero, List.set_cons_succ])
  iterate 4
    first
      | (refine mv_free ?_ (Or.inl ⟨by rfl, ?_⟩) (⟨k0, k1⟩) ?_
         rotate_left 1
         · intro u
           go_simp
           try simp only [d1]
           try simp only [d2]
           try simp only [d3]
           try with_reducible rfl
         simp only [Act.put, List.setIfInBounds_toArray, List.set_cons_zero, List.set_cons_succ])
      | (refine mv_free _ (Or.inr ⟨by rfl, rfl⟩) (⟨k0, k1⟩) ?_
         simp only [Act.put, List.setIfInBounds_toArray, List.set_cons_zero, List.set_cons_succ])
  iterate 1
    first
      | (refine mv_take ?_ (Or.inl ⟨by rfl, ?_⟩) (⟨k0, k1⟩) ?_
         rotate_left 1
         · intro u hu
           (try dsimp only at hu)
           go_simp
           try with_reducible rfl
         simp only [Act.put, List.setIfInBounds_toArray, List.set_cons_zero, List.set_cons_succ])
      | (refine mv_take _ (Or.inr ⟨by rfl, rfl⟩) (⟨k0, k1⟩) ?_
         simp only [Act.put, List.setIfInBounds_toArray, List.set_cons_zero, List.set_cons_succ])
  refine mv_late (fun K hK => ?_)
  go_simp
  refine (AD.out _ (show UnitAt pu o u.drew from hU.out)).mono ?_
  rintro e w1 ⟨rfl, h1, o1⟩
  have o2 := Lib.hid ((Only.refl pu u).drew.trans o1)
  have h2 := Lib.hid h1
  clear k0 k1 h1 o1
  go_wp2_with fail
  refine hK.out (fun _ => True) _ _ ?_
  clear hK K
  iterate 1
    first
      | (refine mv_free ?_ (Or.inl ⟨by rfl, ?_⟩) (trivial) ?_
         rotate_left 1
         · intro u
           go_simp
           try simp only [d1]
           try simp only [d2]
           try simp only [d3]
           try with_reducible rfl
         simp only [Act.put, List.setIfInBounds_toArray, List.set_cons_zero, List.set_cons_succ])
      | (refine mv_free _ (Or.inr ⟨by rfl, rfl⟩) (trivial) ?_
         simp only [Act.put, List.setIfInBounds_toArray, List.set_cons_zero, List.set_cons_succ])
  refine mv_done ?_
  go_wp2
  go_ret
  exact ⟨rfl, ⟨_, h2.out⟩, o2.out⟩
theorem madd_box (w : World) (X Y : Nat → Int) : ∃ V, V = ((((w.alloc (.cells #[.int .i64 (X 0), .int .i64 (X 1), .int .i64 (X 2), .int .i64 (X 3), .int .i64 (X 4), .int .i64 (X 5), .int .i64 (X 6), .int .i64 (X 7), .int .i64 (X 8)] 72)).alloc (.cells #[.int .i64 (Y 0), .int .i64 (Y 1), .int .i64 (Y 2), .int .i64 (Y 3), .int .i64 (Y 4), .int .i64 (Y 5), .int .i64 (Y 6), .int .i64 (Y 7), .int .i64 (Y 8)] 72)).alloc (.cells #[.int .i64 0, .int .i64 0, .int .i64 0, .int .i64 0, .int .i64 0, .int .i64 0, .int .i64 0, .int .i64 0, .int .i64 0] 72)).alloc (.cells #[.int .u32 0] 101)) ∧ Below w.heap.size w V ∧ Held w.heap.size [.int .i64 (X 0), .int .i64 (X 1), .int .i64 (X 2), .int .i64 (X 3), .int .i64 (X 4), .int .i64 (X 5), .int .i64 (X 6), .int .i64 (X 7), .int .i64 (X 8)] V ∧ Held (w.heap.size + 1) [.int .i64 (Y 0), .int .i64 (Y 1), .int .i64 (Y 2), .int .i64 (Y 3), .int .i64 (Y 4), .int .i64 (Y 5), .int .i64 (Y 6), .int .i64 (Y 7), .int .i64 (Y 8)] V ∧ Held (w.heap.size + 2) [.int .i64 0, .int .i64 0, .int .i64 0, .int .i64 0, .int .i64 0, .int .i64 0, .int .i64 0, .int .i64 0, .int .i64 0] V ∧ Held (w.heap.size + 3) [.int .u32 0] V ∧ V.heap.size = w.heap.size + 4 := by
  refine ⟨_, rfl, (by repeat (first | exact Below.refl _ _ | assumption | apply Below.drew | apply below_drewN | (refine Below.alloc ?_ (by first | exact Nat.le_refl _ | omega | (simp <;> omega)) _) | (refine Below.setCell ?_ (by first | exact Nat.le_refl _ | omega | (simp <;> omega)) _))), ?_, ?_, ?_, ?_, by simp⟩
  · have := ((((Held.new w [.int .i64 (X 0), .int .i64 (X 1), .int .i64 (X 2), .int .i64 (X 3), .int .i64 (X 4), .int .i64 (X 5), .int .i64 (X 6), .int .i64 (X 7), .int .i64 (X 8)] 72).alloc (.cells #[.int .i64 (Y 0), .int .i64 (Y 1), .int .i64 (Y 2), .int .i64 (Y 3), .int .i64 (Y 4), .int .i64 (Y 5), .int .i64 (Y 6), .int .i64 (Y 7), .int .i64 (Y 8)] 72)).alloc (.cells #[.int .i64 0, .int .i64 0, .int .i64 0, .int .i64 0, .int .i64 0, .int .i64 0, .int .i64 0, .int .i64 0, .int .i64 0] 72)).alloc (.cells #[.int .u32 0] 101))
    simpa using this
  · have := (((Held.new (w.alloc (.cells #[.int .i64 (X 0), .int .i64 (X 1), .int .i64 (X 2), .int .i64 (X 3), .int .i64 (X 4), .int .i64 (X 5), .int .i64 (X 6), .int .i64 (X 7), .int .i64 (X 8)] 72)) [.int .i64 (Y 0), .int .i64 (Y 1), .int .i64 (Y 2), .int .i64 (Y 3), .int .i64 (Y 4), .int .i64 (Y 5), .int .i64 (Y 6), .int .i64 (Y 7), .int .i64 (Y 8)] 72).alloc (.cells #[.int .i64 0, .int .i64 0, .int .i64 0, .int .i64 0, .int .i64 0, .int .i64 0, .int .i64 0, .int .i64 0, .int .i64 0] 72)).alloc (.cells #[.int .u32 0] 101))
    simpa using this
  · have := ((Held.new ((w.alloc (.cells #[.int .i64 (X 0), .int .i64 (X 1), .int .i64 (X 2), .int .i64 (X 3), .int .i64 (X 4), .int .i64 (X 5), .int .i64 (X 6), .int .i64 (X 7), .int .i64 (X 8)] 72)).alloc (.cells #[.int .i64 (Y 0), .int .i64 (Y 1), .int .i64 (Y 2), .int .i64 (Y 3), .int .i64 (Y 4), .int .i64 (Y 5), .int .i64 (Y 6), .int .i64 (Y 7), .int .i64 (Y 8)] 72)) [.int .i64 0, .int .i64 0, .int .i64 0, .int .i64 0, .int .i64 0, .int .i64 0, .int .i64 0, .int .i64 0, .int .i64 0] 72).alloc (.cells #[.int .u32 0] 101))
    simpa using this
  · have := (Held.new (((w.alloc (.cells #[.int .i64 (X 0), .int .i64 (X 1), .int .i64 (X 2), .int .i64 (X 3), .int .i64 (X 4), .int .i64 (X 5), .int .i64 (X 6), .int .i64 (X 7), .int .i64 (X 8)] 72)).alloc (.cells #[.int .i64 (Y 0), .int .i64 (Y 1), .int .i64 (Y 2), .int .i64 (Y 3), .int .i64 (Y 4), .int .i64 (Y 5), .int .i64 (Y 6), .int .i64 (Y 7), .int .i64 (Y 8)] 72)).alloc (.cells #[.int .i64 0, .int .i64 0, .int .i64 0, .int .i64 0, .int .i64 0, .int .i64 0, .int .i64 0, .int .i64 0, .int .i64 0] 72)) [.int .u32 0] 101)
    simpa using this
set_option maxRecDepth 100000 in
set_option maxHeartbeats 8000000 in
theorem madd (X Y : Nat → Int) (w : World) : Calls Try.prog 31 #[.agg #[.int .i64 (X 0), .int .i64 (X 1), .int .i64 (X 2), .int .i64 (X 3), .int .i64 (X 4), .int .i64 (X 5), .int .i64 (X 6), .int .i64 (X 7), .int .i64 (X 8)], .agg #[.int .i64 (Y 0), .int .i64 (Y 1), .int .i64 (Y 2), .int .i64 (Y 3), .int .i64 (Y 4), .int .i64 (Y 5), .int .i64 (Y 6), .int .i64 (Y 7), .int .i64 (Y 8)]] w fun e w' => e = .returned (.agg #[.int .i64 (smI (X 0) (Y 0)), .int .i64 (smI (X 1) (Y 1)), .int .i64 (smI (X 2) (Y 2)), .int .i64 (smI (X 3) (Y 3)), .int .i64 (smI (X 4) (Y 4)), .int .i64 (smI (X 5) (Y 5)), .int .i64 (smI (X 6) (Y 6)), .int .i64 (smI (X 7) (Y 7)), .int .i64 (smI (X 8) (Y 8))]) ∧ Below w.heap.size w w' := by
  obtain ⟨V, eV, hb0, hX, hY, hR, hU, hz⟩ := madd_box w X Y
  have BD := Lib.hid (mbuild 52 #[.pointer (some ⟨w.heap.size + 3, 0, none⟩), .pointer (some ⟨w.heap.size, 0, none⟩), .pointer (some ⟨w.heap.size + 1, 0, none⟩)] (fun t => smI (X t) (Y t)) (fun u => (∃ o, UnitAt (w.heap.size + 3) o u) ∧ Held w.heap.size [.int .i64 (X 0), .int .i64 (X 1), .int .i64 (X 2), .int .i64 (X 3), .int .i64 (X 4), .int .i64 (X 5), .int .i64 (X 6), .int .i64 (X 7), .int .i64 (X 8)] u ∧ Held (w.heap.size + 1) [.int .i64 (Y 0), .int .i64 (Y 1), .int .i64 (Y 2), .int .i64 (Y 3), .int .i64 (Y 4), .int .i64 (Y 5), .int .i64 (Y 6), .int .i64 (Y 7), .int .i64 (Y 8)] u ∧ Held (w.heap.size + 2) [.int .i64 0, .int .i64 0, .int .i64 0, .int .i64 0, .int .i64 0, .int .i64 0, .int .i64 0, .int .i64 0, .int .i64 0] u ∧ Below w.heap.size w u) (w.heap.size + 3) V (enters_of Try.func52 (by kernel_rfl) rfl) (by omega) (by omega)
    (fun u u' h k => ⟨h.1.elim fun o q => ⟨o, q.bl k (by omega)⟩, h.2.1.below k (by omega), h.2.2.1.below k (by omega), h.2.2.2.1.below k (by omega), h.2.2.2.2.trans (k.mono (by omega))⟩) ⟨⟨_, UnitAt.of hU⟩, hX, hY, hR, hb0⟩
    (fun u i j hi hj h => by
      obtain ⟨⟨o, hu⟩, h1, h2, h3, h4⟩ := h
      refine (madd1 (w.heap.size + 3) w.heap.size (w.heap.size + 1) X Y i j u hi hj o h1 h2 hu (by omega) (by omega)).mono (fun e u' q => ?_)
      obtain ⟨q1, q2, q3⟩ := q
      exact ⟨q1, ⟨q2, h1.only q3 (by omega), h2.only q3 (by omega), h3.only q3 (by omega), h4.trans (q3.below (by omega))⟩, .of_only q3⟩))
  replace eV := Lib.hid eV
  replace hz := Lib.hid hz
  clear hX hY hR hU hb0
  go_enter Try.func31, Try.ntmps31
  go_upto_region 2 with (fail)
  rw [← eV.out]
  go_wp2_with fail
  refine BD.out.mono ?_
  rintro e w1 ⟨rfl, ⟨-, -, -, hR1, hb1⟩, -⟩
  obtain ⟨u9, e9, h9, b9⟩ := ml_laid hR1 rfl (fun t => smI (X t) (Y t))
  have hb9 := Lib.hid (hb1.trans (b9.mono (by omega)))
  replace e9 := Lib.hid e9
  obtain ⟨p0, q0⟩ := hR1.one 0 rfl
  obtain ⟨p1, q1⟩ := hR1.one 1 rfl
  obtain ⟨p2, q2⟩ := hR1.one 2 rfl
  obtain ⟨p3, q3⟩ := hR1.one 3 rfl
  obtain ⟨p4, q4⟩ := hR1.one 4 rfl
  obtain ⟨p5, q5⟩ := hR1.one 5 rfl
  obtain ⟨p6, q6⟩ := hR1.one 6 rfl
  obtain ⟨p7, q7⟩ := hR1.one 7 rfl
  obtain ⟨p8, q8⟩ := hR1.one 8 rfl
  clear BD hR1 hb1 b9
  go_wp2
  rw [← e9.out]
  obtain ⟨y0, z0⟩ := h9.one 0 rfl
  obtain ⟨y1, z1⟩ := h9.one 1 rfl
  obtain ⟨y2, z2⟩ := h9.one 2 rfl
  obtain ⟨y3, z3⟩ := h9.one 3 rfl
  obtain ⟨y4, z4⟩ := h9.one 4 rfl
  obtain ⟨y5, z5⟩ := h9.one 5 rfl
  obtain ⟨y6, z6⟩ := h9.one 6 rfl
  obtain ⟨y7, z7⟩ := h9.one 7 rfl
  obtain ⟨y8, z8⟩ := h9.one 8 rfl
  exact bodyPost_ret (v := .agg #[.int .i64 (smI (X 0) (Y 0)), .int .i64 (smI (X 1) (Y 1)), .int .i64 (smI (X 2) (Y 2)), .int .i64 (smI (X 3) (Y 3)), .int .i64 (smI (X 4) (Y 4)), .int .i64 (smI (X 5) (Y 5)), .int .i64 (smI (X 6) (Y 6)), .int .i64 (smI (X 7) (Y 7)), .int .i64 (smI (X 8) (Y 8))]) (by simp [results, Try.results31, go_sem, y0, y1, y2, y3, y4, y5, y6, y7, y8]) rfl ⟨rfl, hb9.out⟩
set_option maxRecDepth 100000 in
set_option maxHeartbeats 8000000 in
theorem msub1 (pu p q : Nat) (X Y : Nat → Int) (i j : Nat) (u : World) (hi : i < 3) (hj : j < 3) (o : Bool) (h : Held p [.int .i64 (X 0), .int .i64 (X 1), .int .i64 (X 2), .int .i64 (X 3), .int .i64 (X 4), .int .i64 (X 5), .int .i64 (X 6), .int .i64 (X 7), .int .i64 (X 8)] u) (g : Held q [.int .i64 (Y 0), .int .i64 (Y 1), .int .i64 (Y 2), .int .i64 (Y 3), .int .i64 (Y 4), .int .i64 (Y 5), .int .i64 (Y 6), .int .i64 (Y 7), .int .i64 (Y 8)] u) (hu : UnitAt pu o u) (n1 : p ≠ pu) (n2 : q ≠ pu) : Calls Try.prog 54 #[.int .i64 (i : Int), .int .i64 (j : Int), .pointer (some ⟨pu, 0, none⟩), .pointer (some ⟨p, 0, none⟩), .pointer (some ⟨q, 0, none⟩)] u fun e u' => e = .returned (.int .i64 (sbI (X (i * 3 + j)) (Y (i * 3 + j)))) ∧ (∃ o', UnitAt pu o' u') ∧ Only pu u u' := by
  have k0 := ml_at h (k := i * 3 + j) (by omega)
  have k1 := ml_at g (k := i * 3 + j) (by omega)
  have hi3 : (i : Int) < 3 := by omega
  have hj3 : (j : Int) < 3 := by omega
  have AD := fun v hv => sub_any pu o (X (i * 3 + j)) (Y (i * 3 + j)) v hv
  simp only [show ∀ a b, clp (clp a - clp b) = sbI a b from fun _ _ => rfl] at AD
  generalize sbI (X (i * 3 + j)) (Y (i * 3 + j)) = r at *
  generalize X (i * 3 + j) = x at *
  generalize Y (i * 3 + j) = y at *
  replace AD := Lib.hid AD
  have hU := Lib.hid hu
  clear h g hu
  go_enter Try.func54, Try.ntmps54
  go_wp2_with fail
  refine region_moves (fun v => v.cell? ⟨p, i * 3 + j, none⟩ = some (.int .i64 x) ∧ v.cell? ⟨q, i * 3 + j, none⟩ = some (.int .i64 y)) [(10, [(4, 10), (9, 10), (3, 4), (8, 9), (2, 3), (1, 3), (7, 8), (6, 8), (0, 2), (5, 7)])] [(.free, 0), (.free, 1), (.free, 2), (.free, 3), (.take, 4), (.free, 5), (.free, 6), (.free, 7), (.free, 8), (.take, 9), (.late, 10), (.free, 11)] _ (by kernel_rfl) (by kernel_rfl) (by kernel_rfl) (by kernel_rfl) (by decide) rfl (fun _ _ _ _ _ h => h) ?_
  simp only [List.filterMap_cons, List.filterMap_nil, List.getElem?_toArray, List.getElem?_cons_zero, List.getElem?_cons_succ, Option.map_some]
  iterate 4
    first
      | (refine mv_free ?_ (Or.inl ⟨by rfl, ?_⟩) (⟨k0, k1⟩) ?_
         rotate_left 1
         · intro u
           go_simp
           try simp only [d1]
           try simp only [d2]
           try simp only [d3]
           try with_reducible rfl
         simp only [Act.put, List.setIfInBounds_toArray, List.set_cons_zero, List.set_cons_succ])
      | (refine mv_free _ (Or.inr ⟨by rfl, rfl⟩) (⟨k0, k1⟩) ?_
         simp only [Act.put, List.setIfInBounds_toArray, List.set_cons_zero, List.set_cons_succ])
  iterate 1
    first
      | (refine mv_take ?_ (Or.inl ⟨by rfl, ?_⟩) (⟨k0, k1⟩) ?_
         rotate_left 1
         · intro u hu
           (try dsimp only at hu)
           go_simp
           try with_reducible rfl
         simp only [Act.put, List.setIfInBounds_toArray, List.set_cons_zero, List.set_cons_succ])
      | (refine mv_take _ (Or.inr ⟨by rfl, rfl⟩) (⟨k0, k1⟩) ?_
         simp only [Act.put, List.setIfInBounds_toArray, List.set_cons_zero, List.set_cons_succ])
  iterate 4
    first
      | (refine mv_free ?_ (Or.inl ⟨by rfl, ?_⟩) (⟨k0, k1⟩) ?_
         rotate_left 1
         · intro u
           go_simp
           try simp only [d1]
           try simp only [d2]
           try simp only [d3]
           try with_reducible rfl
         simp only [Act.put, List.setIfInBounds_toArray, List.set_cons_zero, List.set_cons_succ])
      | (refine mv_free _ (Or.inr ⟨by rfl, rfl⟩) (⟨k0, k1⟩) ?_
         simp only [Act.put, List.setIfInBounds_toArray, List.set_cons_zero, List.set_cons_succ])
  iterate 1
    first
      | (refine mv_take ?_ (Or.inl ⟨by rfl, ?_⟩) (⟨k0, k1⟩) ?_
         rotate_left 1
         · intro u hu
           (try dsimp only at hu)
           go_simp
           try with_reducible rfl
         simp only [Act.put, List.setIfInBounds_toArray, List.set_cons_zero, List.set_cons_succ])
      | (refine mv_take _ (Or.inr ⟨by rfl, rfl⟩) (⟨k0, k1⟩) ?_
         simp only [Act.put, List.setIfInBounds_toArray, List.set_cons_zero, List.set_cons_succ])
  refine mv_late (fun K hK => ?_)
  go_simp
  refine (AD.out _ (show UnitAt pu o u.drew from hU.out)).mono ?_
  rintro e w1 ⟨rfl, h1, o1⟩
  have o2 := Lib.hid ((Only.refl pu u).drew.trans o1)
  have h2 := Lib.hid h1
  clear k0 k1 h1 o1
  go_wp2_with fail
  refine hK.out (fun _ => True) _ _ ?_
  clear hK K
  iterate 1
    first
      | (refine mv_free ?_ (Or.inl ⟨by rfl, ?_⟩) (trivial) ?_
         rotate_left 1
         · intro u
           go_simp
           try simp only [d1]
           try simp only [d2]
           try simp only [d3]
           try with_reducible rfl
         simp only [Act.put, List.setIfInBounds_toArray, List.set_cons_zero, List.set_cons_succ])
      | (refine mv_free _ (Or.inr ⟨by rfl, rfl⟩) (trivial) ?_
         simp only [Act.put, List.setIfInBounds_toArray, List.set_cons_zero, List.set_cons_succ])
  refine mv_done ?_
  go_wp2
  go_ret
  exact ⟨rfl, ⟨_, h2.out⟩, o2.out⟩
theorem msub_box (w : World) (X Y : Nat → Int) : ∃ V, V = ((((w.alloc (.cells #[.int .i64 (X 0), .int .i64 (X 1), .int .i64 (X 2), .int .i64 (X 3), .int .i64 (X 4), .int .i64 (X 5), .int .i64 (X 6), .int .i64 (X 7), .int .i64 (X 8)] 72)).alloc (.cells #[.int .i64 (Y 0), .int .i64 (Y 1), .int .i64 (Y 2), .int .i64 (Y 3), .int .i64 (Y 4), .int .i64 (Y 5), .int .i64 (Y 6), .int .i64 (Y 7), .int .i64 (Y 8)] 72)).alloc (.cells #[.int .i64 0, .int .i64 0, .int .i64 0, .int .i64 0, .int .i64 0, .int .i64 0, .int .i64 0, .int .i64 0, .int .i64 0] 72)).alloc (.cells #[.int .u32 0] 101)) ∧ Below w.heap.size w V ∧ Held w.heap.size [.int .i64 (X 0), .int .i64 (X 1), .int .i64 (X 2), .int .i64 (X 3), .int .i64 (X 4), .int .i64 (X 5), .int .i64 (X 6), .int .i64 (X 7), .int .i64 (X 8)] V ∧ Held (w.heap.size + 1) [.int .i64 (Y 0), .int .i64 (Y 1), .int .i64 (Y 2), .int .i64 (Y 3), .int .i64 (Y 4), .int .i64 (Y 5), .int .i64 (Y 6), .int .i64 (Y 7), .int .i64 (Y 8)] V ∧ Held (w.heap.size + 2) [.int .i64 0, .int .i64 0, .int .i64 0, .int .i64 0, .int .i64 0, .int .i64 0, .int .i64 0, .int .i64 0, .int .i64 0] V ∧ Held (w.heap.size + 3) [.int .u32 0] V ∧ V.heap.size = w.heap.size + 4 := by
  refine ⟨_, rfl, (by repeat (first | exact Below.refl _ _ | assumption | apply Below.drew | apply below_drewN | (refine Below.alloc ?_ (by first | exact Nat.le_refl _ | omega | (simp <;> omega)) _) | (refine Below.setCell ?_ (by first | exact Nat.le_refl _ | omega | (simp <;> omega)) _))), ?_, ?_, ?_, ?_, by simp⟩
  · have := ((((Held.new w [.int .i64 (X 0), .int .i64 (X 1), .int .i64 (X 2), .int .i64 (X 3), .int .i64 (X 4), .int .i64 (X 5), .int .i64 (X 6), .int .i64 (X 7), .int .i64 (X 8)] 72).alloc (.cells #[.int .i64 (Y 0), .int .i64 (Y 1), .int .i64 (Y 2), .int .i64 (Y 3), .int .i64 (Y 4), .int .i64 (Y 5), .int .i64 (Y 6), .int .i64 (Y 7), .int .i64 (Y 8)] 72)).alloc (.cells #[.int .i64 0, .int .i64 0, .int .i64 0, .int .i64 0, .int .i64 0, .int .i64 0, .int .i64 0, .int .i64 0, .int .i64 0] 72)).alloc (.cells #[.int .u32 0] 101))
    simpa using this
  · have := (((Held.new (w.alloc (.cells #[.int .i64 (X 0), .int .i64 (X 1), .int .i64 (X 2), .int .i64 (X 3), .int .i64 (X 4), .int .i64 (X 5), .int .i64 (X 6), .int .i64 (X 7), .int .i64 (X 8)] 72)) [.int .i64 (Y 0), .int .i64 (Y 1), .int .i64 (Y 2), .int .i64 (Y 3), .int .i64 (Y 4), .int .i64 (Y 5), .int .i64 (Y 6), .int .i64 (Y 7), .int .i64 (Y 8)] 72).alloc (.cells #[.int .i64 0, .int .i64 0, .int .i64 0, .int .i64 0, .int .i64 0, .int .i64 0, .int .i64 0, .int .i64 0, .int .i64 0] 72)).alloc (.cells #[.int .u32 0] 101))
    simpa using this
  · have := ((Held.new ((w.alloc (.cells #[.int .i64 (X 0), .int .i64 (X 1), .int .i64 (X 2), .int .i64 (X 3), .int .i64 (X 4), .int .i64 (X 5), .int .i64 (X 6), .int .i64 (X 7), .int .i64 (X 8)] 72)).alloc (.cells #[.int .i64 (Y 0), .int .i64 (Y 1), .int .i64 (Y 2), .int .i64 (Y 3), .int .i64 (Y 4), .int .i64 (Y 5), .int .i64 (Y 6), .int .i64 (Y 7), .int .i64 (Y 8)] 72)) [.int .i64 0, .int .i64 0, .int .i64 0, .int .i64 0, .int .i64 0, .int .i64 0, .int .i64 0, .int .i64 0, .int .i64 0] 72).alloc (.cells #[.int .u32 0] 101))
    simpa using this
  · have := (Held.new (((w.alloc (.cells #[.int .i64 (X 0), .int .i64 (X 1), .int .i64 (X 2), .int .i64 (X 3), .int .i64 (X 4), .int .i64 (X 5), .int .i64 (X 6), .int .i64 (X 7), .int .i64 (X 8)] 72)).alloc (.cells #[.int .i64 (Y 0), .int .i64 (Y 1), .int .i64 (Y 2), .int .i64 (Y 3), .int .i64 (Y 4), .int .i64 (Y 5), .int .i64 (Y 6), .int .i64 (Y 7), .int .i64 (Y 8)] 72)).alloc (.cells #[.int .i64 0, .int .i64 0, .int .i64 0, .int .i64 0, .int .i64 0, .int .i64 0, .int .i64 0, .int .i64 0, .int .i64 0] 72)) [.int .u32 0] 101)
    simpa using this
set_option maxRecDepth 100000 in
set_option maxHeartbeats 8000000 in
theorem msub (X Y : Nat → Int) (w : World) : Calls Try.prog 32 #[.agg #[.int .i64 (X 0), .int .i64 (X 1), .int .i64 (X 2), .int .i64 (X 3), .int .i64 (X 4), .int .i64 (X 5), .int .i64 (X 6), .int .i64 (X 7), .int .i64 (X 8)], .agg #[.int .i64 (Y 0), .int .i64 (Y 1), .int .i64 (Y 2), .int .i64 (Y 3), .int .i64 (Y 4), .int .i64 (Y 5), .int .i64 (Y 6), .int .i64 (Y 7), .int .i64 (Y 8)]] w fun e w' => e = .returned (.agg #[.int .i64 (sbI (X 0) (Y 0)), .int .i64 (sbI (X 1) (Y 1)), .int .i64 (sbI (X 2) (Y 2)), .int .i64 (sbI (X 3) (Y 3)), .int .i64 (sbI (X 4) (Y 4)), .int .i64 (sbI (X 5) (Y 5)), .int .i64 (sbI (X 6) (Y 6)), .int .i64 (sbI (X 7) (Y 7)), .int .i64 (sbI (X 8) (Y 8))]) ∧ Below w.heap.size w w' := by
  obtain ⟨V, eV, hb0, hX, hY, hR, hU, hz⟩ := msub_box w X Y
  have BD := Lib.hid (mbuild 54 #[.pointer (some ⟨w.heap.size + 3, 0, none⟩), .pointer (some ⟨w.heap.size, 0, none⟩), .pointer (some ⟨w.heap.size + 1, 0, none⟩)] (fun t => sbI (X t) (Y t)) (fun u => (∃ o, UnitAt (w.heap.size + 3) o u) ∧ Held w.heap.size [.int .i64 (X 0), .int .i64 (X 1), .int .i64 (X 2), .int .i64 (X 3), .int .i64 (X 4), .int .i64 (X 5), .int .i64 (X 6), .int .i64 (X 7), .int .i64 (X 8)] u ∧ Held (w.heap.size + 1) [.int .i64 (Y 0), .int .i64 (Y 1), .int .i64 (Y 2), .int .i64 (Y 3), .int .i64 (Y 4), .int .i64 (Y 5), .int .i64 (Y 6), .int .i64 (Y 7), .int .i64 (Y 8)] u ∧ Held (w.heap.size + 2) [.int .i64 0, .int .i64 0, .int .i64 0, .int .i64 0, .int .i64 0, .int .i64 0, .int .i64 0, .int .i64 0, .int .i64 0] u ∧ Below w.heap.size w u) (w.heap.size + 3) V (enters_of Try.func54 (by kernel_rfl) rfl) (by omega) (by omega)
    (fun u u' h k => ⟨h.1.elim fun o q => ⟨o, q.bl k (by omega)⟩, h.2.1.below k (by omega), h.2.2.1.below k (by omega), h.2.2.2.1.below k (by omega), h.2.2.2.2.trans (k.mono (by omega))⟩) ⟨⟨_, UnitAt.of hU⟩, hX, hY, hR, hb0⟩
    (fun u i j hi hj h => by
      obtain ⟨⟨o, hu⟩, h1, h2, h3, h4⟩ := h
      refine (msub1 (w.heap.size + 3) w.heap.size (w.heap.size + 1) X Y i j u hi hj o h1 h2 hu (by omega) (by omega)).mono (fun e u' q => ?_)
      obtain ⟨q1, q2, q3⟩ := q
      exact ⟨q1, ⟨q2, h1.only q3 (by omega), h2.only q3 (by omega), h3.only q3 (by omega), h4.trans (q3.below (by omega))⟩, .of_only q3⟩))
  replace eV := Lib.hid eV
  replace hz := Lib.hid hz
  clear hX hY hR hU hb0
  go_enter Try.func32, Try.ntmps32
  go_upto_region 2 with (fail)
  rw [← eV.out]
  go_wp2_with fail
  refine BD.out.mono ?_
  rintro e w1 ⟨rfl, ⟨-, -, -, hR1, hb1⟩, -⟩
  obtain ⟨u9, e9, h9, b9⟩ := ml_laid hR1 rfl (fun t => sbI (X t) (Y t))
  have hb9 := Lib.hid (hb1.trans (b9.mono (by omega)))
  replace e9 := Lib.hid e9
  obtain ⟨p0, q0⟩ := hR1.one 0 rfl
  obtain ⟨p1, q1⟩ := hR1.one 1 rfl
  obtain ⟨p2, q2⟩ := hR1.one 2 rfl
  obtain ⟨p3, q3⟩ := hR1.one 3 rfl
  obtain ⟨p4, q4⟩ := hR1.one 4 rfl
  obtain ⟨p5, q5⟩ := hR1.one 5 rfl
  obtain ⟨p6, q6⟩ := hR1.one 6 rfl
  obtain ⟨p7, q7⟩ := hR1.one 7 rfl
  obtain ⟨p8, q8⟩ := hR1.one 8 rfl
  clear BD hR1 hb1 b9
  go_wp2
  rw [← e9.out]
  obtain ⟨y0, z0⟩ := h9.one 0 rfl
  obtain ⟨y1, z1⟩ := h9.one 1 rfl
  obtain ⟨y2, z2⟩ := h9.one 2 rfl
  obtain ⟨y3, z3⟩ := h9.one 3 rfl
  obtain ⟨y4, z4⟩ := h9.one 4 rfl
  obtain ⟨y5, z5⟩ := h9.one 5 rfl
  obtain ⟨y6, z6⟩ := h9.one 6 rfl
  obtain ⟨y7, z7⟩ := h9.one 7 rfl
  obtain ⟨y8, z8⟩ := h9.one 8 rfl
  exact bodyPost_ret (v := .agg #[.int .i64 (sbI (X 0) (Y 0)), .int .i64 (sbI (X 1) (Y 1)), .int .i64 (sbI (X 2) (Y 2)), .int .i64 (sbI (X 3) (Y 3)), .int .i64 (sbI (X 4) (Y 4)), .int .i64 (sbI (X 5) (Y 5)), .int .i64 (sbI (X 6) (Y 6)), .int .i64 (sbI (X 7) (Y 7)), .int .i64 (sbI (X 8) (Y 8))]) (by simp [results, Try.results32, go_sem, y0, y1, y2, y3, y4, y5, y6, y7, y8]) rfl ⟨rfl, hb9.out⟩
theorem mpls_box (w : World) (A B : Nat → Int) : ∃ V, V = (((((w.alloc (.cells #[.int .i64 (A 0), .int .i64 (A 1), .int .i64 (A 2)] 80)).alloc (.cells #[.int .i64 (B 0), .int .i64 (B 1), .int .i64 (B 2)] 80)).alloc (.cells #[.int .i64 0, .int .i64 0, .int .i64 0] 80)).alloc (.cells #[.int .u32 0] 101)).alloc (.cells #[.int .i64 0, .int .i64 0, .int .i64 0] 80)) ∧ Below w.heap.size w V ∧ Held w.heap.size [.int .i64 (A 0), .int .i64 (A 1), .int .i64 (A 2)] V ∧ Held (w.heap.size + 1) [.int .i64 (B 0), .int .i64 (B 1), .int .i64 (B 2)] V ∧ Held (w.heap.size + 2) [.int .i64 0, .int .i64 0, .int .i64 0] V ∧ Held (w.heap.size + 3) [.int .u32 0] V ∧ Held (w.heap.size + 4) [.int .i64 0, .int .i64 0, .int .i64 0] V ∧ V.heap.size = w.heap.size + 5 := by
  refine ⟨_, rfl, (by repeat (first | exact Below.refl _ _ | assumption | apply Below.drew | apply below_drewN | (refine Below.alloc ?_ (by first | exact Nat.le_refl _ | omega | (simp <;> omega)) _) | (refine Below.setCell ?_ (by first | exact Nat.le_refl _ | omega | (simp <;> omega)) _))), ?_, ?_, ?_, ?_, ?_, by simp⟩
  · have := (((((Held.new w [.int .i64 (A 0), .int .i64 (A 1), .int .i64 (A 2)] 80).alloc (.cells #[.int .i64 (B 0), .int .i64 (B 1), .int .i64 (B 2)] 80)).alloc (.cells #[.int .i64 0, .int .i64 0, .int .i64 0] 80)).alloc (.cells #[.int .u32 0] 101)).alloc (.cells #[.int .i64 0, .int .i64 0, .int .i64 0] 80))
    simpa using this
  · have := ((((Held.new (w.alloc (.cells #[.int .i64 (A 0), .int .i64 (A 1), .int .i64 (A 2)] 80)) [.int .i64 (B 0), .int .i64 (B 1), .int .i64 (B 2)] 80).alloc (.cells #[.int .i64 0, .int .i64 0, .int .i64 0] 80)).alloc (.cells #[.int .u32 0] 101)).alloc (.cells #[.int .i64 0, .int .i64 0, .int .i64 0] 80))
    simpa using this
  · have := (((Held.new ((w.alloc (.cells #[.int .i64 (A 0), .int .i64 (A 1), .int .i64 (A 2)] 80)).alloc (.cells #[.int .i64 (B 0), .int .i64 (B 1), .int .i64 (B 2)] 80)) [.int .i64 0, .int .i64 0, .int .i64 0] 80).alloc (.cells #[.int .u32 0] 101)).alloc (.cells #[.int .i64 0, .int .i64 0, .int .i64 0] 80))
    simpa using this
  · have := ((Held.new (((w.alloc (.cells #[.int .i64 (A 0), .int .i64 (A 1), .int .i64 (A 2)] 80)).alloc (.cells #[.int .i64 (B 0), .int .i64 (B 1), .int .i64 (B 2)] 80)).alloc (.cells #[.int .i64 0, .int .i64 0, .int .i64 0] 80)) [.int .u32 0] 101).alloc (.cells #[.int .i64 0, .int .i64 0, .int .i64 0] 80))
    simpa using this
  · have := (Held.new ((((w.alloc (.cells #[.int .i64 (A 0), .int .i64 (A 1), .int .i64 (A 2)] 80)).alloc (.cells #[.int .i64 (B 0), .int .i64 (B 1), .int .i64 (B 2)] 80)).alloc (.cells #[.int .i64 0, .int .i64 0, .int .i64 0] 80)).alloc (.cells #[.int .u32 0] 101)) [.int .i64 0, .int .i64 0, .int .i64 0] 80)
    simpa using this
def pls (A B : Nat → Int) (t : Nat) : Int := smI (A t) (B t)
set_option maxRecDepth 100000 in
set_option maxHeartbeats 8000000 in
theorem mplus (A B : Nat → Int) (w : World) : Calls Try.prog 38 #[.agg #[.int .i64 (A 0), .int .i64 (A 1), .int .i64 (A 2)], .agg #[.int .i64 (B 0), .int .i64 (B 1), .int .i64 (B 2)]] w fun e w' => e = .returned (.agg #[.int .i64 ((pls A B) 0), .int .i64 ((pls A B) 1), .int .i64 ((pls A B) 2)]) ∧ Below w.heap.size w w' := by
  obtain ⟨V, eV, hb0, hA, hB, hR, hU, hM, hz⟩ := mpls_box w A B
  have S0 := Lib.hid (show (∃ o, UnitAt (w.heap.size + 3) o V) ∧ Held w.heap.size [.int .i64 (A 0), .int .i64 (A 1), .int .i64 (A 2)] V ∧ Held (w.heap.size + 1) [.int .i64 (B 0), .int .i64 (B 1), .int .i64 (B 2)] V ∧ Held (w.heap.size + 2) [.int .i64 0, .int .i64 0, .int .i64 0] V ∧ Held (w.heap.size + 4) (vC (pls A B) 0) V ∧ Below w.heap.size w V from ⟨⟨_, UnitAt.of hU⟩, hA, hB, hR, by rw [vC_zero]; exact hM, hb0⟩)
  replace eV := Lib.hid eV
  clear hA hB hR hU hM hb0 hz
  go_enter Try.func38, Try.ntmps38
  go_upto_region 3 with (fail)
  rw [← eV.out]
  go_wp2_with fail
  go_loopw [8] (fun i u => ∃ k : Nat, k ≤ 3 ∧ i = .int .i64 (k : Int) ∧ Hid ((∃ o, UnitAt (w.heap.size + 3) o u) ∧ Held w.heap.size [.int .i64 (A 0), .int .i64 (A 1), .int .i64 (A 2)] u ∧ Held (w.heap.size + 1) [.int .i64 (B 0), .int .i64 (B 1), .int .i64 (B 2)] u ∧ Held (w.heap.size + 2) [.int .i64 0, .int .i64 0, .int .i64 0] u ∧ Held (w.heap.size + 4) (vC (pls A B) k) u ∧ Below w.heap.size w u)) (fun i _ => 3 - (intOf i).toNat)
  case atStart => exact ⟨0, by omega, rfl, S0⟩
  case round =>
    clear S0
    obtain ⟨k, hk, rfl, S⟩ := hrel
    by_cases hlt : k < 3
    · have hk3 : (k : Int) < 3 := by omega
      obtain ⟨⟨o, hU⟩, hA, hB, hR, hM, hb⟩ := S.out
      have k0 := vl_at hA hlt
      have k1 := vl_at hB hlt
      have l4 := hM.lt
      have st := Lib.hid (vC_set (pls A B) k hlt)
      have AD := fun v hv => add_any (w.heap.size + 3) o (A k) (B k) v hv
      simp only [show clp (clp (A k) + clp (B k)) = pls A B k from rfl] at AD
      generalize pls A B k = y at st AD
      generalize A k = x0 at k0 AD
      generalize B k = x1 at k1 AD
      replace AD := Lib.hid AD
      have SS := Lib.hid S.out
      have hUU := Lib.hid hU
      clear S hU hA hB hR hM hb
      go_wp2_with fail
      refine region_moves (fun u => u.cell? ⟨w.heap.size, k, none⟩ = some (.int .i64 x0) ∧ u.cell? ⟨w.heap.size + 1, k, none⟩ = some (.int .i64 x1)) [(9, [(8, 9), (7, 9), (0, 9), (1, 9), (2, 9), (3, 9), (4, 9), (5, 9), (6, 9)])] [(.free, 0), (.free, 1), (.free, 2), (.take, 3), (.free, 4), (.free, 5), (.take, 6), (.step, 7), (.free, 8), (.late, 9)] _ (by kernel_rfl) (by kernel_rfl) (by kernel_rfl) (by kernel_rfl) (by decide) rfl (fun _ _ _ _ _ h => h) ?_
      simp only [List.filterMap_cons, List.filterMap_nil, List.getElem?_toArray, List.getElem?_cons_zero, List.getElem?_cons_succ, Option.map_some]
      iterate 3
        first
          | (refine mv_free ?_ (Or.inl ⟨by rfl, ?_⟩) (⟨k0, k1⟩) ?_
             rotate_left 1
             · intro u
               go_simp
               try simp only [d1]
               try simp only [d2]
               try simp only [d3]
               try with_reducible rfl
             simp only [Act.put, List.setIfInBounds_toArray, List.set_cons_zero, List.set_cons_succ])
          | (refine mv_free _ (Or.inr ⟨by rfl, rfl⟩) (⟨k0, k1⟩) ?_
             simp only [Act.put, List.setIfInBounds_toArray, List.set_cons_zero, List.set_cons_succ])
      iterate 1
        first
          | (refine mv_take ?_ (Or.inl ⟨by rfl, ?_⟩) (⟨k0, k1⟩) ?_
             rotate_left 1
             · intro u hu
               (try dsimp only at hu)
               go_simp
               try with_reducible rfl
             simp only [Act.put, List.setIfInBounds_toArray, List.set_cons_zero, List.set_cons_succ])
          | (refine mv_take _ (Or.inr ⟨by rfl, rfl⟩) (⟨k0, k1⟩) ?_
             simp only [Act.put, List.setIfInBounds_toArray, List.set_cons_zero, List.set_cons_succ])
      iterate 2
        first
          | (refine mv_free ?_ (Or.inl ⟨by rfl, ?_⟩) (⟨k0, k1⟩) ?_
             rotate_left 1
             · intro u
               go_simp
               try simp only [d1]
               try simp only [d2]
               try simp only [d3]
               try with_reducible rfl
             simp only [Act.put, List.setIfInBounds_toArray, List.set_cons_zero, List.set_cons_succ])
          | (refine mv_free _ (Or.inr ⟨by rfl, rfl⟩) (⟨k0, k1⟩) ?_
             simp only [Act.put, List.setIfInBounds_toArray, List.set_cons_zero, List.set_cons_succ])
      iterate 1
        first
          | (refine mv_take ?_ (Or.inl ⟨by rfl, ?_⟩) (⟨k0, k1⟩) ?_
             rotate_left 1
             · intro u hu
               (try dsimp only at hu)
               go_simp
               try with_reducible rfl
             simp only [Act.put, List.setIfInBounds_toArray, List.set_cons_zero, List.set_cons_succ])
          | (refine mv_take _ (Or.inr ⟨by rfl, rfl⟩) (⟨k0, k1⟩) ?_
             simp only [Act.put, List.setIfInBounds_toArray, List.set_cons_zero, List.set_cons_succ])
      refine mv_step (fun K hK => ?_)
      go_simp
      refine (AD.out _ (show UnitAt _ o wr.drew from hUU.out)).mono ?_
      rintro e w1 ⟨rfl, hU1, o1⟩
      obtain ⟨-, hA, hB, hR, hM, hb⟩ := SS.out
      have o2 := (Only.refl (w.heap.size + 3) wr).drew.trans o1
      have hA1 := hA.only o2 (by omega)
      have hB1 := hB.only o2 (by omega)
      have hR1 := hR.only o2 (by omega)
      have hM1 := hM.only o2 (by omega)
      have hb1 := hb.trans (o2.below (by omega))
      replace k0 := (o2.cell (p := ⟨w.heap.size, k, none⟩) (show w.heap.size ≠ w.heap.size + 3 by omega)).trans k0
      replace k1 := (o2.cell (p := ⟨w.heap.size + 1, k, none⟩) (show w.heap.size + 1 ≠ w.heap.size + 3 by omega)).trans k1
      obtain ⟨v0, hv0⟩ := vC_some (pls A B) k k hlt
      have ck := hM1.c k _ hv0
      have fk := hM1.f k (by rw [vC_len]; omega)
      have O4 : Only (w.heap.size + 4) w1 (w1.setCell ⟨w.heap.size + 4, k, none⟩ (.int .i64 y)) := (Only.refl (w.heap.size + 4) w1).setCell (p := ⟨w.heap.size + 4, k, none⟩) _
      have S2 := Lib.hid (show (∃ o, UnitAt (w.heap.size + 3) o (w1.setCell ⟨w.heap.size + 4, k, none⟩ (.int .i64 y))) ∧ Held w.heap.size [.int .i64 (A 0), .int .i64 (A 1), .int .i64 (A 2)] (w1.setCell ⟨w.heap.size + 4, k, none⟩ (.int .i64 y)) ∧ Held (w.heap.size + 1) [.int .i64 (B 0), .int .i64 (B 1), .int .i64 (B 2)] (w1.setCell ⟨w.heap.size + 4, k, none⟩ (.int .i64 y)) ∧ Held (w.heap.size + 2) [.int .i64 0, .int .i64 0, .int .i64 0] (w1.setCell ⟨w.heap.size + 4, k, none⟩ (.int .i64 y)) ∧ Held (w.heap.size + 4) (vC (pls A B) (k + 1)) (w1.setCell ⟨w.heap.size + 4, k, none⟩ (.int .i64 y)) ∧ Below w.heap.size w (w1.setCell ⟨w.heap.size + 4, k, none⟩ (.int .i64 y)) from
        ⟨⟨_, hU1.only O4 (by omega)⟩, hA1.only O4 (by omega), hB1.only O4 (by omega), hR1.only O4 (by omega), st.out ▸ hM1.set k (.int .i64 y) (by rw [vC_len]; omega), hb1.trans (O4.below (by omega))⟩)
      clear hA hB hR hM hb hA1 hB1 hR1 hM1 hb1 SS AD hv0 st o1 o2 O4 hU1 hUU
      go_wp2_with fail
      refine hK.out _ _ _ (fun u hu => hu) (⟨k0, k1⟩) ?_
      clear hK K
      iterate 1
        first
          | (refine mv_free ?_ (Or.inl ⟨by rfl, ?_⟩) (⟨k0, k1⟩) ?_
             rotate_left 1
             · intro u
               go_simp
               try simp only [d1]
               try simp only [d2]
               try simp only [d3]
               try with_reducible rfl
             simp only [Act.put, List.setIfInBounds_toArray, List.set_cons_zero, List.set_cons_succ])
          | (refine mv_free _ (Or.inr ⟨by rfl, rfl⟩) (⟨k0, k1⟩) ?_
             simp only [Act.put, List.setIfInBounds_toArray, List.set_cons_zero, List.set_cons_succ])
      refine mv_late (fun K hK => ?_)
      go_simp
      refine hK.out (fun _ => True) _ _ ?_
      clear hK K
      refine mv_done ?_
      generalize w1.setCell ⟨w.heap.size + 4, k, none⟩ (.int .i64 y) = w2 at *
      go_wp2
      go_roundw
      case rel => exact ⟨k + 1, by omega, by go_num, S2⟩
      case measure => simp [intOf]; omega
    · obtain rfl : k = 3 := by omega
      obtain ⟨-, hA, hB, hR, hM, hb⟩ := S.out
      rw [vC_all] at hM
      obtain ⟨u9, e9, h9, b9⟩ := vl_laid hR (pls A B)
      have hb9 := Lib.hid (hb.trans (b9.mono (by omega)))
      replace e9 := Lib.hid e9
      obtain ⟨p0, q0⟩ := hR.one 0 rfl
      obtain ⟨p1, q1⟩ := hR.one 1 rfl
      obtain ⟨p2, q2⟩ := hR.one 2 rfl
      obtain ⟨c0, f0⟩ := hM.one 0 rfl
      obtain ⟨c1, f1⟩ := hM.one 1 rfl
      obtain ⟨c2, f2⟩ := hM.one 2 rfl
      clear S hA hB hR hM hb b9
      go_wp2
      rw [← e9.out]
      obtain ⟨y0, z0⟩ := h9.one 0 rfl
      obtain ⟨y1, z1⟩ := h9.one 1 rfl
      obtain ⟨y2, z2⟩ := h9.one 2 rfl
      exact bodyPost_ret (v := .agg #[.int .i64 ((pls A B) 0), .int .i64 ((pls A B) 1), .int .i64 ((pls A B) 2)]) (by simp [results, Try.results38, go_sem, y0, y1, y2]) rfl ⟨rfl, hb9.out⟩
end Go.Proofs.Ytaijkngdelolgaa
