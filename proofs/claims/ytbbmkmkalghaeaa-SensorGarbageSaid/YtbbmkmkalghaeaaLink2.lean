/- A link's receive and Step, by their cases; walked. -/
import Derived.Test.YtbbmkmkalghaeaaLink1
import Derived.Deep.Cut
namespace Go.Proofs.Ytbbmkmkalghaeaa
open Go.ChangeShapes Go.WideShapes Go.ChangeAt Go.RowKit
set_option linter.unusedVariables false
set_option linter.unusedSimpArgs false

theorem Held.beside_set {b : Nat} {cs : List Value} {w : World} (h : Held b cs w) : b < w.heap.size := h.lt
/-- What a frame's block held it holds still. -/
theorem Fr4.only {s b : Nat} {p q r t : Int} {v v' : World} (h : Fr4 s p q r t v) (k : Only b v v') (hs : s ≠ b) : Fr4 s p q r t v' := by
  have e := k.block s hs
  exact ⟨(World.cell?_of_block e).trans h.c0, (World.cell?_of_block e).trans h.c1, (World.cell?_of_block e).trans h.c2, (World.cell?_of_block e).trans h.c3, (World.frozen?_of_block e).trans h.f0, (World.frozen?_of_block e).trans h.f1, (World.frozen?_of_block e).trans h.f2, (World.frozen?_of_block e).trans h.f3, by rw [k.size]; exact h.lt⟩
theorem Fr4.drew {s : Nat} {p q r t : Int} {v : World} (h : Fr4 s p q r t v) : Fr4 s p q r t v.drew := ⟨h.c0, h.c1, h.c2, h.c3, h.f0, h.f1, h.f2, h.f3, h.lt⟩
/-- The object's last frame and 'known' written. -/
theorem Held.last {id pa i s v t ag ta re : Int} {kn : Bool} {b : Nat} {w : World} (h : Held b (lkC id pa i s v t kn ag ta re) w) (f0 f1 f2 f3 : Int) : ∃ u, u = ((((w.setCell ⟨b, 2, none⟩ (.int .i64 f0)).setCell ⟨b, 3, none⟩ (.int .i64 f1)).setCell ⟨b, 4, none⟩ (.int .i64 f2)).setCell ⟨b, 5, none⟩ (.int .i64 f3)).setCell ⟨b, 6, none⟩ (.bool true) ∧ Held b (lkC id pa f0 f1 f2 f3 true ag ta re) u ∧ Only b w u :=
  ⟨_, rfl, ((((h.set 2 _ (by simp [lkC])).set 3 _ (by simp [lkC])).set 4 _ (by simp [lkC])).set 5 _ (by simp [lkC])).set 6 _ (by simp [lkC]), ((((((Only.refl b w).setCell (p := ⟨b, 2, none⟩) _).setCell (p := ⟨b, 3, none⟩) _).setCell (p := ⟨b, 4, none⟩) _).setCell (p := ⟨b, 5, none⟩) _).setCell (p := ⟨b, 6, none⟩) _)⟩
/-- Block b alone of the old ones, through four worlds. -/
theorem beside4 {b : Nat} {w v2 u u9 : World} (h : Below w.heap.size w v2) (k : Only b v2 u) (g : Below w.heap.size u u9) : Beside b w u9 :=
  ⟨g.os.trans (k.os.trans h.os), g.tape.trans (k.tape.trans h.tape), g.output.trans (k.output.trans h.output), Nat.le_trans h.size (by rw [← k.size]; exact g.size), fun j hj hne => (g.block j hj).trans ((k.block j hne).trans (h.block j hj))⟩
theorem Below.drew' {B : Nat} {w v : World} (h : Below B w v) : Below B w v.drew := h.drew
theorem Beside.drew {b : Nat} {w v : World} (h : Beside b w v) : Beside b w v.drew := h.as rfl rfl rfl rfl
set_option maxRecDepth 100000 in
set_option maxHeartbeats 8000000 in
theorem lkrcv_bad {id pa i s v t ag ta re : Int} {kn : Bool} (b : Nat) (l : List Int) (w : World) (h : Held b (lkC id pa i s v t kn ag ta re) w) (a : Option Addr) (cap : Nat) (hr : RowIs .u8 w a l) (hL : l.length ≤ maxLen) (hB : BYT l) (hE : tkE l ≠ 0) : Calls Try.prog 128 #[.pointer (some ⟨b, 0, none⟩), .slice a l.length cap] w fun e w' => e = .returned (.tuple #[.agg #[.int .i64 0, .int .i64 0, .int .i64 0, .int .i64 0], .int .i64 (tkE l)]) ∧ Held b (lkC id pa i s v t kn ag ta re) w' ∧ Beside b w w' := by
  have FT := Lib.hid (fun u (k : Below w.heap.size w u) => ftake a cap l u (hr.below k) hL hB)
  clear hr hL hB
  generalize tkI l = f0 at *
  generalize tkS l = f1 at *
  generalize tkV l = f2 at *
  generalize tkT l = f3 at *
  generalize tkE l = ee at *
  have d5 : (ee != 0) = true := by simp [hE]
  obtain ⟨V0, eV0, hb0, hN0, hz0⟩ := f4_alloc w 0 0 0 0
  replace eV0 := Lib.hid eV0
  have hlt := h.lt
  go_enter Try.func128, Try.ntmps128
  go_upto_region 1 with (fail)
  rw [← eV0.out]
  go_wp2_with fail
  refine (FT.out _ hb0).mono ?_
  rintro e w1 ⟨rfl, hb1⟩
  have hN1 := hN0.keep hb1
  have hb2 := hb0.trans (hb1.mono hb0.size)
  go_upto_region 2 with (fail)
  obtain ⟨V2, eV2, hm2, hF2, hz2⟩ := f4_alloc w1 f0 f1 f2 f3
  rw [← eV2]
  replace eV2 := Lib.hid eV2
  have hN2 := hN1.keep hm2
  have hb3 := hb2.trans (hm2.mono hb2.size)
  have hH2 := h.bel hb3
  obtain ⟨s1, es1⟩ : ∃ s1, s1 = w1.heap.size := ⟨_, rfl⟩
  rw [← es1] at hF2 ⊢
  have hs1 : b < s1 ∧ w.heap.size < s1 := by have := hb1.size; omega
  replace es1 := Lib.hid es1
  replace hs1 := Lib.hid hs1
  replace hlt := Lib.hid hlt
  replace hb3 := Lib.hid hb3
  clear hb0 hN0 hz0 hb1 hN1 hb2 hm2 hz2 h
  have hN9 := Lib.hid hN2
  have hF9 := Lib.hid hF2
  have hH9 := Lib.hid hH2
  clear hN2 hF2 hH2
  obtain ⟨j0, j1, j2, j3, -, -, -, -, -⟩ := hF9.out
  obtain ⟨u9, e9, hF8, hb9⟩ := (hN9.out).laid 0 0 0 0
  have z0 := hF8.c0
  have z1 := hF8.c1
  have z2 := hF8.c2
  have z3 := hF8.c3
  rw [e9] at z0 z1 z2 z3
  have hR := Lib.hid (hH9.out.below hb9 hlt.out)
  have hBs := Lib.hid (beside4 (b := b) hb3.out (Only.refl b V2) hb9)
  rw [e9] at hR hBs
  clear e9 hF8 hb9
  obtain ⟨q0, q1, q2, q3, p0, p1, p2, p3, -⟩ := hN9.out
  go_wp2
  refine bodyPost_ret (v := .tuple #[.agg #[.int .i64 0, .int .i64 0, .int .i64 0, .int .i64 0], .int .i64 ee]) (by simp [results, Try.results128, go_sem, z0, z1, z2, z3]) rfl ?_
  exact ⟨rfl, hR.out, hBs.out⟩
set_option maxRecDepth 100000 in
set_option maxHeartbeats 8000000 in
theorem lkrcv_id {id pa i s v t ag ta re : Int} {kn : Bool} (b : Nat) (l : List Int) (w : World) (h : Held b (lkC id pa i s v t kn ag ta re) w) (a : Option Addr) (cap : Nat) (hr : RowIs .u8 w a l) (hL : l.length ≤ maxLen) (hB : BYT l) (hE : tkE l = 0) (hI : tkI l ≠ id) : Calls Try.prog 128 #[.pointer (some ⟨b, 0, none⟩), .slice a l.length cap] w fun e w' => e = .returned (.tuple #[.agg #[.int .i64 0, .int .i64 0, .int .i64 0, .int .i64 0], .int .i64 10]) ∧ Held b (lkC id pa i s v t kn ag ta re) w' ∧ Beside b w w' := by
  have FT := Lib.hid (fun u (k : Below w.heap.size w u) => ftake a cap l u (hr.below k) hL hB)
  clear hr hL hB
  rw [hE] at FT
  clear hE
  generalize tkI l = f0 at *
  generalize tkS l = f1 at *
  generalize tkV l = f2 at *
  generalize tkT l = f3 at *
  have d5 : (f0 != id) = true := by simp [hI]
  obtain ⟨V0, eV0, hb0, hN0, hz0⟩ := f4_alloc w 0 0 0 0
  replace eV0 := Lib.hid eV0
  have hlt := h.lt
  go_enter Try.func128, Try.ntmps128
  go_upto_region 1 with (fail)
  rw [← eV0.out]
  go_wp2_with fail
  refine (FT.out _ hb0).mono ?_
  rintro e w1 ⟨rfl, hb1⟩
  have hN1 := hN0.keep hb1
  have hb2 := hb0.trans (hb1.mono hb0.size)
  go_upto_region 2 with (fail)
  obtain ⟨V2, eV2, hm2, hF2, hz2⟩ := f4_alloc w1 f0 f1 f2 f3
  rw [← eV2]
  replace eV2 := Lib.hid eV2
  have hN2 := hN1.keep hm2
  have hb3 := hb2.trans (hm2.mono hb2.size)
  have hH2 := h.bel hb3
  obtain ⟨s1, es1⟩ : ∃ s1, s1 = w1.heap.size := ⟨_, rfl⟩
  rw [← es1] at hF2 ⊢
  have hs1 : b < s1 ∧ w.heap.size < s1 := by have := hb1.size; omega
  replace es1 := Lib.hid es1
  replace hs1 := Lib.hid hs1
  replace hlt := Lib.hid hlt
  replace hb3 := Lib.hid hb3
  clear hb0 hN0 hz0 hb1 hN1 hb2 hm2 hz2 h
  have hN9 := Lib.hid hN2
  have hF9 := Lib.hid hF2
  have hH9 := Lib.hid hH2
  clear hN2 hF2 hH2
  obtain ⟨j0, j1, j2, j3, -, -, -, -, -⟩ := hF9.out
  have c0 := hH9.out.c 0 _ rfl
  go_wp2_with fail
  refine region_moves (fun u => u.cell? ⟨s1, 0, none⟩ = some (.int .i64 f0) ∧ u.cell? ⟨b, 0, none⟩ = some (.int .i64 id)) [] [(.free, 0), (.take, 1), (.free, 2), (.free, 3), (.free, 4), (.take, 5), (.free, 6)] _ (by kernel_rfl) (by kernel_rfl) (by kernel_rfl) (by kernel_rfl) (by decide) rfl (fun _ _ _ _ _ h => h) ?_
  simp only [List.filterMap_cons, List.filterMap_nil, List.getElem?_toArray, List.getElem?_cons_zero, List.getElem?_cons_succ, Option.map_some]
  iterate 1
    first
      | (refine mv_free ?_ (Or.inl ⟨by rfl, ?_⟩) (⟨j0, c0⟩) ?_
         rotate_left 1
         · intro u
           go_simp
           try simp only [d1]
           try simp only [d2]
           try simp only [d3]
           try with_reducible rfl
         simp only [Act.put, List.setIfInBounds_toArray, List.set_cons_zero, List.set_cons_succ])
      | (refine mv_free _ (Or.inr ⟨by rfl, rfl⟩) (⟨j0, c0⟩) ?_
         simp only [Act.put, List.setIfInBounds_toArray, List.set_cons_zero, List.set_cons_succ])
  iterate 1
    first
      | (refine mv_take ?_ (Or.inl ⟨by rfl, ?_⟩) (⟨j0, c0⟩) ?_
         rotate_left 1
         · intro u hu
           (try dsimp only at hu)
           go_simp
           try with_reducible rfl
         simp only [Act.put, List.setIfInBounds_toArray, List.set_cons_zero, List.set_cons_succ])
      | (refine mv_take _ (Or.inr ⟨by rfl, rfl⟩) (⟨j0, c0⟩) ?_
         simp only [Act.put, List.setIfInBounds_toArray, List.set_cons_zero, List.set_cons_succ])
  iterate 3
    first
      | (refine mv_free ?_ (Or.inl ⟨by rfl, ?_⟩) (⟨j0, c0⟩) ?_
         rotate_left 1
         · intro u
           go_simp
           try simp only [d1]
           try simp only [d2]
           try simp only [d3]
           try with_reducible rfl
         simp only [Act.put, List.setIfInBounds_toArray, List.set_cons_zero, List.set_cons_succ])
      | (refine mv_free _ (Or.inr ⟨by rfl, rfl⟩) (⟨j0, c0⟩) ?_
         simp only [Act.put, List.setIfInBounds_toArray, List.set_cons_zero, List.set_cons_succ])
  iterate 1
    first
      | (refine mv_take ?_ (Or.inl ⟨by rfl, ?_⟩) (⟨j0, c0⟩) ?_
         rotate_left 1
         · intro u hu
           (try dsimp only at hu)
           go_simp
           try with_reducible rfl
         simp only [Act.put, List.setIfInBounds_toArray, List.set_cons_zero, List.set_cons_succ])
      | (refine mv_take _ (Or.inr ⟨by rfl, rfl⟩) (⟨j0, c0⟩) ?_
         simp only [Act.put, List.setIfInBounds_toArray, List.set_cons_zero, List.set_cons_succ])
  iterate 1
    first
      | (refine mv_free ?_ (Or.inl ⟨by rfl, ?_⟩) (⟨j0, c0⟩) ?_
         rotate_left 1
         · intro u
           go_simp
           try simp only [d1]
           try simp only [d2]
           try simp only [d3]
           try with_reducible rfl
         simp only [Act.put, List.setIfInBounds_toArray, List.set_cons_zero, List.set_cons_succ])
      | (refine mv_free _ (Or.inr ⟨by rfl, rfl⟩) (⟨j0, c0⟩) ?_
         simp only [Act.put, List.setIfInBounds_toArray, List.set_cons_zero, List.set_cons_succ])
  refine mv_done ?_
  obtain ⟨u9, e9, hF8, hb9⟩ := (hN9.out).laid 0 0 0 0
  have z0 := hF8.c0
  have z1 := hF8.c1
  have z2 := hF8.c2
  have z3 := hF8.c3
  rw [e9] at z0 z1 z2 z3
  have hR := Lib.hid (hH9.out.below hb9 hlt.out)
  have hBs := Lib.hid (beside4 (b := b) hb3.out (Only.refl b V2) hb9)
  rw [e9] at hR hBs
  clear e9 hF8 hb9
  obtain ⟨q0, q1, q2, q3, p0, p1, p2, p3, -⟩ := hN9.out
  go_wp2
  refine bodyPost_ret (v := .tuple #[.agg #[.int .i64 0, .int .i64 0, .int .i64 0, .int .i64 0], .int .i64 10]) (by simp [results, Try.results128, go_sem, z0, z1, z2, z3]) rfl ?_
  exact ⟨rfl, hR.out.drew, hBs.out.drew⟩
set_option maxRecDepth 100000 in
set_option maxHeartbeats 8000000 in
theorem lkrcv_new {id pa i s v t ag ta re : Int} {kn : Bool} (b : Nat) (l : List Int) (w : World) (h : Held b (lkC id pa i s v t kn ag ta re) w) (a : Option Addr) (cap : Nat) (hr : RowIs .u8 w a l) (hL : l.length ≤ maxLen) (hB : BYT l) (hE : tkE l = 0) (hI : tkI l = id) (hK : kn = false) : Calls Try.prog 128 #[.pointer (some ⟨b, 0, none⟩), .slice a l.length cap] w fun e w' => e = .returned (.tuple #[.agg #[.int .i64 (tkI l), .int .i64 (tkS l), .int .i64 (tkV l), .int .i64 (tkT l)], .int .i64 0]) ∧ Held b (lkC id pa (tkI l) (tkS l) (tkV l) (tkT l) true ag ta re) w' ∧ Beside b w w' := by
  subst hK
  have FT := Lib.hid (fun u (k : Below w.heap.size w u) => ftake a cap l u (hr.below k) hL hB)
  clear hr hL hB
  rw [hE] at FT
  clear hE
  generalize tkI l = f0 at *
  generalize tkS l = f1 at *
  generalize tkV l = f2 at *
  generalize tkT l = f3 at *
  subst hI
  obtain ⟨V0, eV0, hb0, hN0, hz0⟩ := f4_alloc w 0 0 0 0
  replace eV0 := Lib.hid eV0
  have hlt := h.lt
  go_enter Try.func128, Try.ntmps128
  go_upto_region 1 with (fail)
  rw [← eV0.out]
  go_wp2_with fail
  refine (FT.out _ hb0).mono ?_
  rintro e w1 ⟨rfl, hb1⟩
  have hN1 := hN0.keep hb1
  have hb2 := hb0.trans (hb1.mono hb0.size)
  go_upto_region 2 with (fail)
  obtain ⟨V2, eV2, hm2, hF2, hz2⟩ := f4_alloc w1 f0 f1 f2 f3
  rw [← eV2]
  replace eV2 := Lib.hid eV2
  have hN2 := hN1.keep hm2
  have hb3 := hb2.trans (hm2.mono hb2.size)
  have hH2 := h.bel hb3
  obtain ⟨s1, es1⟩ : ∃ s1, s1 = w1.heap.size := ⟨_, rfl⟩
  rw [← es1] at hF2 ⊢
  have hs1 : b < s1 ∧ w.heap.size < s1 := by have := hb1.size; omega
  replace es1 := Lib.hid es1
  replace hs1 := Lib.hid hs1
  replace hlt := Lib.hid hlt
  replace hb3 := Lib.hid hb3
  clear hb0 hN0 hz0 hb1 hN1 hb2 hm2 hz2 h
  have hN9 := Lib.hid hN2
  have hF9 := Lib.hid hF2
  have hH9 := Lib.hid hH2
  clear hN2 hF2 hH2
  obtain ⟨j0, j1, j2, j3, -, -, -, -, -⟩ := hF9.out
  have c0 := hH9.out.c 0 _ rfl
  have c3 := hH9.out.c 3 _ rfl
  have c6 := hH9.out.c 6 _ rfl
  go_wp2_with fail
  refine region_moves (fun u => u.cell? ⟨s1, 0, none⟩ = some (.int .i64 f0) ∧ u.cell? ⟨b, 0, none⟩ = some (.int .i64 f0)) [] [(.free, 0), (.take, 1), (.free, 2), (.free, 3), (.free, 4), (.take, 5), (.free, 6)] _ (by kernel_rfl) (by kernel_rfl) (by kernel_rfl) (by kernel_rfl) (by decide) rfl (fun _ _ _ _ _ h => h) ?_
  simp only [List.filterMap_cons, List.filterMap_nil, List.getElem?_toArray, List.getElem?_cons_zero, List.getElem?_cons_succ, Option.map_some]
  iterate 1
    first
      | (refine mv_free ?_ (Or.inl ⟨by rfl, ?_⟩) (⟨j0, c0⟩) ?_
         rotate_left 1
         · intro u
           go_simp
           try simp only [d1]
           try simp only [d2]
           try simp only [d3]
           try with_reducible rfl
         simp only [Act.put, List.setIfInBounds_toArray, List.set_cons_zero, List.set_cons_succ])
      | (refine mv_free _ (Or.inr ⟨by rfl, rfl⟩) (⟨j0, c0⟩) ?_
         simp only [Act.put, List.setIfInBounds_toArray, List.set_cons_zero, List.set_cons_succ])
  iterate 1
    first
      | (refine mv_take ?_ (Or.inl ⟨by rfl, ?_⟩) (⟨j0, c0⟩) ?_
         rotate_left 1
         · intro u hu
           (try dsimp only at hu)
           go_simp
           try with_reducible rfl
         simp only [Act.put, List.setIfInBounds_toArray, List.set_cons_zero, List.set_cons_succ])
      | (refine mv_take _ (Or.inr ⟨by rfl, rfl⟩) (⟨j0, c0⟩) ?_
         simp only [Act.put, List.setIfInBounds_toArray, List.set_cons_zero, List.set_cons_succ])
  iterate 3
    first
      | (refine mv_free ?_ (Or.inl ⟨by rfl, ?_⟩) (⟨j0, c0⟩) ?_
         rotate_left 1
         · intro u
           go_simp
           try simp only [d1]
           try simp only [d2]
           try simp only [d3]
           try with_reducible rfl
         simp only [Act.put, List.setIfInBounds_toArray, List.set_cons_zero, List.set_cons_succ])
      | (refine mv_free _ (Or.inr ⟨by rfl, rfl⟩) (⟨j0, c0⟩) ?_
         simp only [Act.put, List.setIfInBounds_toArray, List.set_cons_zero, List.set_cons_succ])
  iterate 1
    first
      | (refine mv_take ?_ (Or.inl ⟨by rfl, ?_⟩) (⟨j0, c0⟩) ?_
         rotate_left 1
         · intro u hu
           (try dsimp only at hu)
           go_simp
           try with_reducible rfl
         simp only [Act.put, List.setIfInBounds_toArray, List.set_cons_zero, List.set_cons_succ])
      | (refine mv_take _ (Or.inr ⟨by rfl, rfl⟩) (⟨j0, c0⟩) ?_
         simp only [Act.put, List.setIfInBounds_toArray, List.set_cons_zero, List.set_cons_succ])
  iterate 1
    first
      | (refine mv_free ?_ (Or.inl ⟨by rfl, ?_⟩) (⟨j0, c0⟩) ?_
         rotate_left 1
         · intro u
           go_simp
           try simp only [d1]
           try simp only [d2]
           try simp only [d3]
           try with_reducible rfl
         simp only [Act.put, List.setIfInBounds_toArray, List.set_cons_zero, List.set_cons_succ])
      | (refine mv_free _ (Or.inr ⟨by rfl, rfl⟩) (⟨j0, c0⟩) ?_
         simp only [Act.put, List.setIfInBounds_toArray, List.set_cons_zero, List.set_cons_succ])
  refine mv_done ?_
  go_wp2_with fail
  refine region_moves (fun u => u.cell? ⟨s1, 1, none⟩ = some (.int .i64 f1) ∧ u.cell? ⟨b, 3, none⟩ = some (.int .i64 s) ∧ u.cell? ⟨b, 6, none⟩ = some (.bool false)) [] [(.free, 0), (.free, 1), (.free, 2), (.free, 3), (.take, 4), (.free, 5), (.free, 6), (.free, 7), (.take, 8), (.free, 9), (.free, 10), (.free, 11), (.free, 12), (.free, 13), (.take, 14), (.free, 15), (.free, 16), (.free, 17), (.free, 18), (.free, 19)] _ (by kernel_rfl) (by kernel_rfl) (by kernel_rfl) (by kernel_rfl) (by decide) rfl (fun _ _ _ _ _ h => h) ?_
  simp only [List.filterMap_cons, List.filterMap_nil, List.getElem?_toArray, List.getElem?_cons_zero, List.getElem?_cons_succ, Option.map_some]
  iterate 4
    first
      | (refine mv_free ?_ (Or.inl ⟨by rfl, ?_⟩) (⟨j1, c3, c6⟩) ?_
         rotate_left 1
         · intro u
           go_simp
           try simp only [d1]
           try simp only [d2]
           try simp only [d3]
           try with_reducible rfl
         simp only [Act.put, List.setIfInBounds_toArray, List.set_cons_zero, List.set_cons_succ])
      | (refine mv_free _ (Or.inr ⟨by rfl, rfl⟩) (⟨j1, c3, c6⟩) ?_
         simp only [Act.put, List.setIfInBounds_toArray, List.set_cons_zero, List.set_cons_succ])
  iterate 1
    first
      | (refine mv_take ?_ (Or.inl ⟨by rfl, ?_⟩) (⟨j1, c3, c6⟩) ?_
         rotate_left 1
         · intro u hu
           (try dsimp only at hu)
           go_simp
           try with_reducible rfl
         simp only [Act.put, List.setIfInBounds_toArray, List.set_cons_zero, List.set_cons_succ])
      | (refine mv_take _ (Or.inr ⟨by rfl, rfl⟩) (⟨j1, c3, c6⟩) ?_
         simp only [Act.put, List.setIfInBounds_toArray, List.set_cons_zero, List.set_cons_succ])
  iterate 3
    first
      | (refine mv_free ?_ (Or.inl ⟨by rfl, ?_⟩) (⟨j1, c3, c6⟩) ?_
         rotate_left 1
         · intro u
           go_simp
           try simp only [d1]
           try simp only [d2]
           try simp only [d3]
           try with_reducible rfl
         simp only [Act.put, List.setIfInBounds_toArray, List.set_cons_zero, List.set_cons_succ])
      | (refine mv_free _ (Or.inr ⟨by rfl, rfl⟩) (⟨j1, c3, c6⟩) ?_
         simp only [Act.put, List.setIfInBounds_toArray, List.set_cons_zero, List.set_cons_succ])
  iterate 1
    first
      | (refine mv_take ?_ (Or.inl ⟨by rfl, ?_⟩) (⟨j1, c3, c6⟩) ?_
         rotate_left 1
         · intro u hu
           (try dsimp only at hu)
           go_simp
           try with_reducible rfl
         simp only [Act.put, List.setIfInBounds_toArray, List.set_cons_zero, List.set_cons_succ])
      | (refine mv_take _ (Or.inr ⟨by rfl, rfl⟩) (⟨j1, c3, c6⟩) ?_
         simp only [Act.put, List.setIfInBounds_toArray, List.set_cons_zero, List.set_cons_succ])
  iterate 5
    first
      | (refine mv_free ?_ (Or.inl ⟨by rfl, ?_⟩) (⟨j1, c3, c6⟩) ?_
         rotate_left 1
         · intro u
           go_simp
           try simp only [d1]
           try simp only [d2]
           try simp only [d3]
           try with_reducible rfl
         simp only [Act.put, List.setIfInBounds_toArray, List.set_cons_zero, List.set_cons_succ])
      | (refine mv_free _ (Or.inr ⟨by rfl, rfl⟩) (⟨j1, c3, c6⟩) ?_
         simp only [Act.put, List.setIfInBounds_toArray, List.set_cons_zero, List.set_cons_succ])
  iterate 1
    first
      | (refine mv_take ?_ (Or.inl ⟨by rfl, ?_⟩) (⟨j1, c3, c6⟩) ?_
         rotate_left 1
         · intro u hu
           (try dsimp only at hu)
           go_simp
           try with_reducible rfl
         simp only [Act.put, List.setIfInBounds_toArray, List.set_cons_zero, List.set_cons_succ])
      | (refine mv_take _ (Or.inr ⟨by rfl, rfl⟩) (⟨j1, c3, c6⟩) ?_
         simp only [Act.put, List.setIfInBounds_toArray, List.set_cons_zero, List.set_cons_succ])
  iterate 5
    first
      | (refine mv_free ?_ (Or.inl ⟨by rfl, ?_⟩) (⟨j1, c3, c6⟩) ?_
         rotate_left 1
         · intro u
           go_simp
           try simp only [d1]
           try simp only [d2]
           try simp only [d3]
           try with_reducible rfl
         simp only [Act.put, List.setIfInBounds_toArray, List.set_cons_zero, List.set_cons_succ])
      | (refine mv_free _ (Or.inr ⟨by rfl, rfl⟩) (⟨j1, c3, c6⟩) ?_
         simp only [Act.put, List.setIfInBounds_toArray, List.set_cons_zero, List.set_cons_succ])
  refine mv_done ?_
  clear j0 j1 j2 j3 c0 c3 c6
  replace hN9 := Lib.hid hN9.out.drew.drew
  replace hF9 := Lib.hid hF9.out.drew.drew
  replace hH9 := Lib.hid hH9.out.drew.drew
  replace hb3 := Lib.hid hb3.out.drew.drew
  generalize V2.drew.drew = V3 at *
  clear eV2
  obtain ⟨U, eU, hHU, hOU⟩ := hH9.out.last f0 f1 f2 f3
  have hNU := hN9.out.only hOU (by have := hlt.out; omega)
  have hFU := hF9.out.only hOU (by have := hs1.out; omega)
  replace eU := Lib.hid eU
  replace hHU := Lib.hid hHU
  replace hOU := Lib.hid hOU
  replace hNU := Lib.hid hNU
  replace hFU := Lib.hid hFU
  obtain ⟨j0, j1, j2, j3, -, -, -, -, -⟩ := hF9.out
  have hO := hH9.out
  obtain ⟨c0, g0⟩ := hO.one 0 rfl
  obtain ⟨c1, g1⟩ := hO.one 1 rfl
  obtain ⟨c2, g2⟩ := hO.one 2 rfl
  obtain ⟨c3, g3⟩ := hO.one 3 rfl
  obtain ⟨c4, g4⟩ := hO.one 4 rfl
  obtain ⟨c5, g5⟩ := hO.one 5 rfl
  obtain ⟨c6, g6⟩ := hO.one 6 rfl
  obtain ⟨c7, g7⟩ := hO.one 7 rfl
  obtain ⟨c8, g8⟩ := hO.one 8 rfl
  obtain ⟨c9, g9⟩ := hO.one 9 rfl
  clear hO
  go_upto_region 8 with (fail)
  rw [← eU.out]
  clear c0 g0 c1 g1 c2 g2 c3 g3 c4 g4 c5 g5 c6 g6 c7 g7 c8 g8 c9 g9 j0 j1 j2 j3
  obtain ⟨j0, j1, j2, j3, -, -, -, -, -⟩ := hFU.out
  obtain ⟨u9, e9, hF8, hb9⟩ := (hNU.out).laid f0 f1 f2 f3
  have z0 := hF8.c0
  have z1 := hF8.c1
  have z2 := hF8.c2
  have z3 := hF8.c3
  rw [e9] at z0 z1 z2 z3
  have hR := Lib.hid (hHU.out.below hb9 hlt.out)
  have hBs := Lib.hid (beside4 hb3.out hOU.out hb9)
  rw [e9] at hR hBs
  clear e9 hF8 hb9
  obtain ⟨q0, q1, q2, q3, p0, p1, p2, p3, -⟩ := hNU.out
  go_wp2
  refine bodyPost_ret (v := .tuple #[.agg #[.int .i64 f0, .int .i64 f1, .int .i64 f2, .int .i64 f3], .int .i64 0]) (by simp [results, Try.results128, go_sem, z0, z1, z2, z3]) rfl ?_
  exact ⟨rfl, hR.out, hBs.out⟩
set_option maxRecDepth 100000 in
set_option maxHeartbeats 8000000 in
theorem lkrcv_ok {id pa i s v t ag ta re : Int} {kn : Bool} (b : Nat) (l : List Int) (w : World) (h : Held b (lkC id pa i s v t kn ag ta re) w) (a : Option Addr) (cap : Nat) (hr : RowIs .u8 w a l) (hL : l.length ≤ maxLen) (hB : BYT l) (hE : tkE l = 0) (hI : tkI l = id) (hK : kn = true) (hS : tkS l = (s + 1) % 256) (s0 : 0 ≤ s ∧ s ≤ 255) : Calls Try.prog 128 #[.pointer (some ⟨b, 0, none⟩), .slice a l.length cap] w fun e w' => e = .returned (.tuple #[.agg #[.int .i64 (tkI l), .int .i64 (tkS l), .int .i64 (tkV l), .int .i64 (tkT l)], .int .i64 0]) ∧ Held b (lkC id pa (tkI l) (tkS l) (tkV l) (tkT l) true ag ta re) w' ∧ Beside b w w' := by
  subst hK
  have FT := Lib.hid (fun u (k : Below w.heap.size w u) => ftake a cap l u (hr.below k) hL hB)
  clear hr hL hB
  rw [hE] at FT
  clear hE
  generalize tkI l = f0 at *
  generalize tkS l = f1 at *
  generalize tkV l = f2 at *
  generalize tkT l = f3 at *
  subst hI
  have n1 : IntKind.i64.wrap (s + 1) = s + 1 := by rw [IntKind.wrap_i64]; omega
  have n2 : (s + 1).tmod 256 = f1 := by rw [Int.tmod_eq_emod_of_nonneg (by omega)]; exact hS.symm
  have d7 : (f1 == f1) = true := by simp
  clear hS s0
  obtain ⟨V0, eV0, hb0, hN0, hz0⟩ := f4_alloc w 0 0 0 0
  replace eV0 := Lib.hid eV0
  have hlt := h.lt
  go_enter Try.func128, Try.ntmps128
  go_upto_region 1 with (fail)
  rw [← eV0.out]
  go_wp2_with fail
  refine (FT.out _ hb0).mono ?_
  rintro e w1 ⟨rfl, hb1⟩
  have hN1 := hN0.keep hb1
  have hb2 := hb0.trans (hb1.mono hb0.size)
  go_upto_region 2 with (fail)
  obtain ⟨V2, eV2, hm2, hF2, hz2⟩ := f4_alloc w1 f0 f1 f2 f3
  rw [← eV2]
  replace eV2 := Lib.hid eV2
  have hN2 := hN1.keep hm2
  have hb3 := hb2.trans (hm2.mono hb2.size)
  have hH2 := h.bel hb3
  obtain ⟨s1, es1⟩ : ∃ s1, s1 = w1.heap.size := ⟨_, rfl⟩
  rw [← es1] at hF2 ⊢
  have hs1 : b < s1 ∧ w.heap.size < s1 := by have := hb1.size; omega
  replace es1 := Lib.hid es1
  replace hs1 := Lib.hid hs1
  replace hlt := Lib.hid hlt
  replace hb3 := Lib.hid hb3
  clear hb0 hN0 hz0 hb1 hN1 hb2 hm2 hz2 h
  have hN9 := Lib.hid hN2
  have hF9 := Lib.hid hF2
  have hH9 := Lib.hid hH2
  clear hN2 hF2 hH2
  obtain ⟨j0, j1, j2, j3, -, -, -, -, -⟩ := hF9.out
  have c0 := hH9.out.c 0 _ rfl
  have c3 := hH9.out.c 3 _ rfl
  have c6 := hH9.out.c 6 _ rfl
  go_wp2_with fail
  refine region_moves (fun u => u.cell? ⟨s1, 0, none⟩ = some (.int .i64 f0) ∧ u.cell? ⟨b, 0, none⟩ = some (.int .i64 f0)) [] [(.free, 0), (.take, 1), (.free, 2), (.free, 3), (.free, 4), (.take, 5), (.free, 6)] _ (by kernel_rfl) (by kernel_rfl) (by kernel_rfl) (by kernel_rfl) (by decide) rfl (fun _ _ _ _ _ h => h) ?_
  simp only [List.filterMap_cons, List.filterMap_nil, List.getElem?_toArray, List.getElem?_cons_zero, List.getElem?_cons_succ, Option.map_some]
  iterate 1
    first
      | (refine mv_free ?_ (Or.inl ⟨by rfl, ?_⟩) (⟨j0, c0⟩) ?_
         rotate_left 1
         · intro u
           go_simp
           try simp only [d1]
           try simp only [d2]
           try simp only [d3]
           try with_reducible rfl
         simp only [Act.put, List.setIfInBounds_toArray, List.set_cons_zero, List.set_cons_succ])
      | (refine mv_free _ (Or.inr ⟨by rfl, rfl⟩) (⟨j0, c0⟩) ?_
         simp only [Act.put, List.setIfInBounds_toArray, List.set_cons_zero, List.set_cons_succ])
  iterate 1
    first
      | (refine mv_take ?_ (Or.inl ⟨by rfl, ?_⟩) (⟨j0, c0⟩) ?_
         rotate_left 1
         · intro u hu
           (try dsimp only at hu)
           go_simp
           try with_reducible rfl
         simp only [Act.put, List.setIfInBounds_toArray, List.set_cons_zero, List.set_cons_succ])
      | (refine mv_take _ (Or.inr ⟨by rfl, rfl⟩) (⟨j0, c0⟩) ?_
         simp only [Act.put, List.setIfInBounds_toArray, List.set_cons_zero, List.set_cons_succ])
  iterate 3
    first
      | (refine mv_free ?_ (Or.inl ⟨by rfl, ?_⟩) (⟨j0, c0⟩) ?_
         rotate_left 1
         · intro u
           go_simp
           try simp only [d1]
           try simp only [d2]
           try simp only [d3]
           try with_reducible rfl
         simp only [Act.put, List.setIfInBounds_toArray, List.set_cons_zero, List.set_cons_succ])
      | (refine mv_free _ (Or.inr ⟨by rfl, rfl⟩) (⟨j0, c0⟩) ?_
         simp only [Act.put, List.setIfInBounds_toArray, List.set_cons_zero, List.set_cons_succ])
  iterate 1
    first
      | (refine mv_take ?_ (Or.inl ⟨by rfl, ?_⟩) (⟨j0, c0⟩) ?_
         rotate_left 1
         · intro u hu
           (try dsimp only at hu)
           go_simp
           try with_reducible rfl
         simp only [Act.put, List.setIfInBounds_toArray, List.set_cons_zero, List.set_cons_succ])
      | (refine mv_take _ (Or.inr ⟨by rfl, rfl⟩) (⟨j0, c0⟩) ?_
         simp only [Act.put, List.setIfInBounds_toArray, List.set_cons_zero, List.set_cons_succ])
  iterate 1
    first
      | (refine mv_free ?_ (Or.inl ⟨by rfl, ?_⟩) (⟨j0, c0⟩) ?_
         rotate_left 1
         · intro u
           go_simp
           try simp only [d1]
           try simp only [d2]
           try simp only [d3]
           try with_reducible rfl
         simp only [Act.put, List.setIfInBounds_toArray, List.set_cons_zero, List.set_cons_succ])
      | (refine mv_free _ (Or.inr ⟨by rfl, rfl⟩) (⟨j0, c0⟩) ?_
         simp only [Act.put, List.setIfInBounds_toArray, List.set_cons_zero, List.set_cons_succ])
  refine mv_done ?_
  go_wp2_with fail
  refine region_moves (fun u => u.cell? ⟨s1, 1, none⟩ = some (.int .i64 f1) ∧ u.cell? ⟨b, 3, none⟩ = some (.int .i64 s) ∧ u.cell? ⟨b, 6, none⟩ = some (.bool true)) [] [(.free, 0), (.free, 1), (.free, 2), (.free, 3), (.take, 4), (.free, 5), (.free, 6), (.free, 7), (.take, 8), (.free, 9), (.free, 10), (.free, 11), (.free, 12), (.free, 13), (.take, 14), (.free, 15), (.free, 16), (.free, 17), (.free, 18), (.free, 19)] _ (by kernel_rfl) (by kernel_rfl) (by kernel_rfl) (by kernel_rfl) (by decide) rfl (fun _ _ _ _ _ h => h) ?_
  simp only [List.filterMap_cons, List.filterMap_nil, List.getElem?_toArray, List.getElem?_cons_zero, List.getElem?_cons_succ, Option.map_some]
  iterate 4
    first
      | (refine mv_free ?_ (Or.inl ⟨by rfl, ?_⟩) (⟨j1, c3, c6⟩) ?_
         rotate_left 1
         · intro u
           go_simp
           try simp only [d1]
           try simp only [d2]
           try simp only [d3]
           try with_reducible rfl
         simp only [Act.put, List.setIfInBounds_toArray, List.set_cons_zero, List.set_cons_succ])
      | (refine mv_free _ (Or.inr ⟨by rfl, rfl⟩) (⟨j1, c3, c6⟩) ?_
         simp only [Act.put, List.setIfInBounds_toArray, List.set_cons_zero, List.set_cons_succ])
  iterate 1
    first
      | (refine mv_take ?_ (Or.inl ⟨by rfl, ?_⟩) (⟨j1, c3, c6⟩) ?_
         rotate_left 1
         · intro u hu
           (try dsimp only at hu)
           go_simp
           try with_reducible rfl
         simp only [Act.put, List.setIfInBounds_toArray, List.set_cons_zero, List.set_cons_succ])
      | (refine mv_take _ (Or.inr ⟨by rfl, rfl⟩) (⟨j1, c3, c6⟩) ?_
         simp only [Act.put, List.setIfInBounds_toArray, List.set_cons_zero, List.set_cons_succ])
  iterate 3
    first
      | (refine mv_free ?_ (Or.inl ⟨by rfl, ?_⟩) (⟨j1, c3, c6⟩) ?_
         rotate_left 1
         · intro u
           go_simp
           try simp only [d1]
           try simp only [d2]
           try simp only [d3]
           try with_reducible rfl
         simp only [Act.put, List.setIfInBounds_toArray, List.set_cons_zero, List.set_cons_succ])
      | (refine mv_free _ (Or.inr ⟨by rfl, rfl⟩) (⟨j1, c3, c6⟩) ?_
         simp only [Act.put, List.setIfInBounds_toArray, List.set_cons_zero, List.set_cons_succ])
  iterate 1
    first
      | (refine mv_take ?_ (Or.inl ⟨by rfl, ?_⟩) (⟨j1, c3, c6⟩) ?_
         rotate_left 1
         · intro u hu
           (try dsimp only at hu)
           go_simp
           try with_reducible rfl
         simp only [Act.put, List.setIfInBounds_toArray, List.set_cons_zero, List.set_cons_succ])
      | (refine mv_take _ (Or.inr ⟨by rfl, rfl⟩) (⟨j1, c3, c6⟩) ?_
         simp only [Act.put, List.setIfInBounds_toArray, List.set_cons_zero, List.set_cons_succ])
  iterate 5
    first
      | (refine mv_free ?_ (Or.inl ⟨by rfl, ?_⟩) (⟨j1, c3, c6⟩) ?_
         rotate_left 1
         · intro u
           go_simp
           try simp only [d1]
           try simp only [d2]
           try simp only [d3]
           try with_reducible rfl
         simp only [Act.put, List.setIfInBounds_toArray, List.set_cons_zero, List.set_cons_succ])
      | (refine mv_free _ (Or.inr ⟨by rfl, rfl⟩) (⟨j1, c3, c6⟩) ?_
         simp only [Act.put, List.setIfInBounds_toArray, List.set_cons_zero, List.set_cons_succ])
  iterate 1
    first
      | (refine mv_take ?_ (Or.inl ⟨by rfl, ?_⟩) (⟨j1, c3, c6⟩) ?_
         rotate_left 1
         · intro u hu
           (try dsimp only at hu)
           go_simp
           try with_reducible rfl
         simp only [Act.put, List.setIfInBounds_toArray, List.set_cons_zero, List.set_cons_succ])
      | (refine mv_take _ (Or.inr ⟨by rfl, rfl⟩) (⟨j1, c3, c6⟩) ?_
         simp only [Act.put, List.setIfInBounds_toArray, List.set_cons_zero, List.set_cons_succ])
  iterate 5
    first
      | (refine mv_free ?_ (Or.inl ⟨by rfl, ?_⟩) (⟨j1, c3, c6⟩) ?_
         rotate_left 1
         · intro u
           go_simp
           try simp only [d1]
           try simp only [d2]
           try simp only [d3]
           try with_reducible rfl
         simp only [Act.put, List.setIfInBounds_toArray, List.set_cons_zero, List.set_cons_succ])
      | (refine mv_free _ (Or.inr ⟨by rfl, rfl⟩) (⟨j1, c3, c6⟩) ?_
         simp only [Act.put, List.setIfInBounds_toArray, List.set_cons_zero, List.set_cons_succ])
  refine mv_done ?_
  clear j0 j1 j2 j3 c0 c3 c6
  replace hN9 := Lib.hid hN9.out.drew.drew
  replace hF9 := Lib.hid hF9.out.drew.drew
  replace hH9 := Lib.hid hH9.out.drew.drew
  replace hb3 := Lib.hid hb3.out.drew.drew
  generalize V2.drew.drew = V3 at *
  clear eV2
  obtain ⟨U, eU, hHU, hOU⟩ := hH9.out.last f0 f1 f2 f3
  have hNU := hN9.out.only hOU (by have := hlt.out; omega)
  have hFU := hF9.out.only hOU (by have := hs1.out; omega)
  replace eU := Lib.hid eU
  replace hHU := Lib.hid hHU
  replace hOU := Lib.hid hOU
  replace hNU := Lib.hid hNU
  replace hFU := Lib.hid hFU
  obtain ⟨j0, j1, j2, j3, -, -, -, -, -⟩ := hF9.out
  have hO := hH9.out
  obtain ⟨c0, g0⟩ := hO.one 0 rfl
  obtain ⟨c1, g1⟩ := hO.one 1 rfl
  obtain ⟨c2, g2⟩ := hO.one 2 rfl
  obtain ⟨c3, g3⟩ := hO.one 3 rfl
  obtain ⟨c4, g4⟩ := hO.one 4 rfl
  obtain ⟨c5, g5⟩ := hO.one 5 rfl
  obtain ⟨c6, g6⟩ := hO.one 6 rfl
  obtain ⟨c7, g7⟩ := hO.one 7 rfl
  obtain ⟨c8, g8⟩ := hO.one 8 rfl
  obtain ⟨c9, g9⟩ := hO.one 9 rfl
  clear hO
  go_upto_region 8 with (fail)
  rw [← eU.out]
  clear c0 g0 c1 g1 c2 g2 c3 g3 c4 g4 c5 g5 c6 g6 c7 g7 c8 g8 c9 g9 j0 j1 j2 j3
  obtain ⟨j0, j1, j2, j3, -, -, -, -, -⟩ := hFU.out
  obtain ⟨u9, e9, hF8, hb9⟩ := (hNU.out).laid f0 f1 f2 f3
  have z0 := hF8.c0
  have z1 := hF8.c1
  have z2 := hF8.c2
  have z3 := hF8.c3
  rw [e9] at z0 z1 z2 z3
  have hR := Lib.hid (hHU.out.below hb9 hlt.out)
  have hBs := Lib.hid (beside4 hb3.out hOU.out hb9)
  rw [e9] at hR hBs
  clear e9 hF8 hb9
  obtain ⟨q0, q1, q2, q3, p0, p1, p2, p3, -⟩ := hNU.out
  go_wp2
  refine bodyPost_ret (v := .tuple #[.agg #[.int .i64 f0, .int .i64 f1, .int .i64 f2, .int .i64 f3], .int .i64 0]) (by simp [results, Try.results128, go_sem, z0, z1, z2, z3]) rfl ?_
  exact ⟨rfl, hR.out, hBs.out⟩
set_option maxRecDepth 100000 in
set_option maxHeartbeats 8000000 in
theorem lkrcv_order {id pa i s v t ag ta re : Int} {kn : Bool} (b : Nat) (l : List Int) (w : World) (h : Held b (lkC id pa i s v t kn ag ta re) w) (a : Option Addr) (cap : Nat) (hr : RowIs .u8 w a l) (hL : l.length ≤ maxLen) (hB : BYT l) (hE : tkE l = 0) (hI : tkI l = id) (hK : kn = true) (hS : tkS l ≠ (s + 1) % 256) (s0 : 0 ≤ s ∧ s ≤ 255) : Calls Try.prog 128 #[.pointer (some ⟨b, 0, none⟩), .slice a l.length cap] w fun e w' => e = .returned (.tuple #[.agg #[.int .i64 0, .int .i64 0, .int .i64 0, .int .i64 0], .int .i64 5]) ∧ Held b (lkC id pa (tkI l) (tkS l) (tkV l) (tkT l) true ag ta re) w' ∧ Beside b w w' := by
  subst hK
  have FT := Lib.hid (fun u (k : Below w.heap.size w u) => ftake a cap l u (hr.below k) hL hB)
  clear hr hL hB
  rw [hE] at FT
  clear hE
  generalize tkI l = f0 at *
  generalize tkS l = f1 at *
  generalize tkV l = f2 at *
  generalize tkT l = f3 at *
  subst hI
  have n1 : IntKind.i64.wrap (s + 1) = s + 1 := by rw [IntKind.wrap_i64]; omega
  obtain ⟨sn, hsn⟩ : ∃ x, x = (s + 1) % 256 := ⟨_, rfl⟩
  have n2 : (s + 1).tmod 256 = sn := by rw [Int.tmod_eq_emod_of_nonneg (by omega), hsn]
  rw [← hsn] at hS
  have d7 : (f1 == sn) = false := by simp [hS]
  clear hS s0 hsn
  obtain ⟨V0, eV0, hb0, hN0, hz0⟩ := f4_alloc w 0 0 0 0
  replace eV0 := Lib.hid eV0
  have hlt := h.lt
  go_enter Try.func128, Try.ntmps128
  go_upto_region 1 with (fail)
  rw [← eV0.out]
  go_wp2_with fail
  refine (FT.out _ hb0).mono ?_
  rintro e w1 ⟨rfl, hb1⟩
  have hN1 := hN0.keep hb1
  have hb2 := hb0.trans (hb1.mono hb0.size)
  go_upto_region 2 with (fail)
  obtain ⟨V2, eV2, hm2, hF2, hz2⟩ := f4_alloc w1 f0 f1 f2 f3
  rw [← eV2]
  replace eV2 := Lib.hid eV2
  have hN2 := hN1.keep hm2
  have hb3 := hb2.trans (hm2.mono hb2.size)
  have hH2 := h.bel hb3
  obtain ⟨s1, es1⟩ : ∃ s1, s1 = w1.heap.size := ⟨_, rfl⟩
  rw [← es1] at hF2 ⊢
  have hs1 : b < s1 ∧ w.heap.size < s1 := by have := hb1.size; omega
  replace es1 := Lib.hid es1
  replace hs1 := Lib.hid hs1
  replace hlt := Lib.hid hlt
  replace hb3 := Lib.hid hb3
  clear hb0 hN0 hz0 hb1 hN1 hb2 hm2 hz2 h
  have hN9 := Lib.hid hN2
  have hF9 := Lib.hid hF2
  have hH9 := Lib.hid hH2
  clear hN2 hF2 hH2
  obtain ⟨j0, j1, j2, j3, -, -, -, -, -⟩ := hF9.out
  have c0 := hH9.out.c 0 _ rfl
  have c3 := hH9.out.c 3 _ rfl
  have c6 := hH9.out.c 6 _ rfl
  go_wp2_with fail
  refine region_moves (fun u => u.cell? ⟨s1, 0, none⟩ = some (.int .i64 f0) ∧ u.cell? ⟨b, 0, none⟩ = some (.int .i64 f0)) [] [(.free, 0), (.take, 1), (.free, 2), (.free, 3), (.free, 4), (.take, 5), (.free, 6)] _ (by kernel_rfl) (by kernel_rfl) (by kernel_rfl) (by kernel_rfl) (by decide) rfl (fun _ _ _ _ _ h => h) ?_
  simp only [List.filterMap_cons, List.filterMap_nil, List.getElem?_toArray, List.getElem?_cons_zero, List.getElem?_cons_succ, Option.map_some]
  iterate 1
    first
      | (refine mv_free ?_ (Or.inl ⟨by rfl, ?_⟩) (⟨j0, c0⟩) ?_
         rotate_left 1
         · intro u
           go_simp
           try simp only [d1]
           try simp only [d2]
           try simp only [d3]
           try with_reducible rfl
         simp only [Act.put, List.setIfInBounds_toArray, List.set_cons_zero, List.set_cons_succ])
      | (refine mv_free _ (Or.inr ⟨by rfl, rfl⟩) (⟨j0, c0⟩) ?_
         simp only [Act.put, List.setIfInBounds_toArray, List.set_cons_zero, List.set_cons_succ])
  iterate 1
    first
      | (refine mv_take ?_ (Or.inl ⟨by rfl, ?_⟩) (⟨j0, c0⟩) ?_
         rotate_left 1
         · intro u hu
           (try dsimp only at hu)
           go_simp
           try with_reducible rfl
         simp only [Act.put, List.setIfInBounds_toArray, List.set_cons_zero, List.set_cons_succ])
      | (refine mv_take _ (Or.inr ⟨by rfl, rfl⟩) (⟨j0, c0⟩) ?_
         simp only [Act.put, List.setIfInBounds_toArray, List.set_cons_zero, List.set_cons_succ])
  iterate 3
    first
      | (refine mv_free ?_ (Or.inl ⟨by rfl, ?_⟩) (⟨j0, c0⟩) ?_
         rotate_left 1
         · intro u
           go_simp
           try simp only [d1]
           try simp only [d2]
           try simp only [d3]
           try with_reducible rfl
         simp only [Act.put, List.setIfInBounds_toArray, List.set_cons_zero, List.set_cons_succ])
      | (refine mv_free _ (Or.inr ⟨by rfl, rfl⟩) (⟨j0, c0⟩) ?_
         simp only [Act.put, List.setIfInBounds_toArray, List.set_cons_zero, List.set_cons_succ])
  iterate 1
    first
      | (refine mv_take ?_ (Or.inl ⟨by rfl, ?_⟩) (⟨j0, c0⟩) ?_
         rotate_left 1
         · intro u hu
           (try dsimp only at hu)
           go_simp
           try with_reducible rfl
         simp only [Act.put, List.setIfInBounds_toArray, List.set_cons_zero, List.set_cons_succ])
      | (refine mv_take _ (Or.inr ⟨by rfl, rfl⟩) (⟨j0, c0⟩) ?_
         simp only [Act.put, List.setIfInBounds_toArray, List.set_cons_zero, List.set_cons_succ])
  iterate 1
    first
      | (refine mv_free ?_ (Or.inl ⟨by rfl, ?_⟩) (⟨j0, c0⟩) ?_
         rotate_left 1
         · intro u
           go_simp
           try simp only [d1]
           try simp only [d2]
           try simp only [d3]
           try with_reducible rfl
         simp only [Act.put, List.setIfInBounds_toArray, List.set_cons_zero, List.set_cons_succ])
      | (refine mv_free _ (Or.inr ⟨by rfl, rfl⟩) (⟨j0, c0⟩) ?_
         simp only [Act.put, List.setIfInBounds_toArray, List.set_cons_zero, List.set_cons_succ])
  refine mv_done ?_
  go_wp2_with fail
  refine region_moves (fun u => u.cell? ⟨s1, 1, none⟩ = some (.int .i64 f1) ∧ u.cell? ⟨b, 3, none⟩ = some (.int .i64 s) ∧ u.cell? ⟨b, 6, none⟩ = some (.bool true)) [] [(.free, 0), (.free, 1), (.free, 2), (.free, 3), (.take, 4), (.free, 5), (.free, 6), (.free, 7), (.take, 8), (.free, 9), (.free, 10), (.free, 11), (.free, 12), (.free, 13), (.take, 14), (.free, 15), (.free, 16), (.free, 17), (.free, 18), (.free, 19)] _ (by kernel_rfl) (by kernel_rfl) (by kernel_rfl) (by kernel_rfl) (by decide) rfl (fun _ _ _ _ _ h => h) ?_
  simp only [List.filterMap_cons, List.filterMap_nil, List.getElem?_toArray, List.getElem?_cons_zero, List.getElem?_cons_succ, Option.map_some]
  iterate 4
    first
      | (refine mv_free ?_ (Or.inl ⟨by rfl, ?_⟩) (⟨j1, c3, c6⟩) ?_
         rotate_left 1
         · intro u
           go_simp
           try simp only [d1]
           try simp only [d2]
           try simp only [d3]
           try with_reducible rfl
         simp only [Act.put, List.setIfInBounds_toArray, List.set_cons_zero, List.set_cons_succ])
      | (refine mv_free _ (Or.inr ⟨by rfl, rfl⟩) (⟨j1, c3, c6⟩) ?_
         simp only [Act.put, List.setIfInBounds_toArray, List.set_cons_zero, List.set_cons_succ])
  iterate 1
    first
      | (refine mv_take ?_ (Or.inl ⟨by rfl, ?_⟩) (⟨j1, c3, c6⟩) ?_
         rotate_left 1
         · intro u hu
           (try dsimp only at hu)
           go_simp
           try with_reducible rfl
         simp only [Act.put, List.setIfInBounds_toArray, List.set_cons_zero, List.set_cons_succ])
      | (refine mv_take _ (Or.inr ⟨by rfl, rfl⟩) (⟨j1, c3, c6⟩) ?_
         simp only [Act.put, List.setIfInBounds_toArray, List.set_cons_zero, List.set_cons_succ])
  iterate 3
    first
      | (refine mv_free ?_ (Or.inl ⟨by rfl, ?_⟩) (⟨j1, c3, c6⟩) ?_
         rotate_left 1
         · intro u
           go_simp
           try simp only [d1]
           try simp only [d2]
           try simp only [d3]
           try with_reducible rfl
         simp only [Act.put, List.setIfInBounds_toArray, List.set_cons_zero, List.set_cons_succ])
      | (refine mv_free _ (Or.inr ⟨by rfl, rfl⟩) (⟨j1, c3, c6⟩) ?_
         simp only [Act.put, List.setIfInBounds_toArray, List.set_cons_zero, List.set_cons_succ])
  iterate 1
    first
      | (refine mv_take ?_ (Or.inl ⟨by rfl, ?_⟩) (⟨j1, c3, c6⟩) ?_
         rotate_left 1
         · intro u hu
           (try dsimp only at hu)
           go_simp
           try with_reducible rfl
         simp only [Act.put, List.setIfInBounds_toArray, List.set_cons_zero, List.set_cons_succ])
      | (refine mv_take _ (Or.inr ⟨by rfl, rfl⟩) (⟨j1, c3, c6⟩) ?_
         simp only [Act.put, List.setIfInBounds_toArray, List.set_cons_zero, List.set_cons_succ])
  iterate 5
    first
      | (refine mv_free ?_ (Or.inl ⟨by rfl, ?_⟩) (⟨j1, c3, c6⟩) ?_
         rotate_left 1
         · intro u
           go_simp
           try simp only [d1]
           try simp only [d2]
           try simp only [d3]
           try with_reducible rfl
         simp only [Act.put, List.setIfInBounds_toArray, List.set_cons_zero, List.set_cons_succ])
      | (refine mv_free _ (Or.inr ⟨by rfl, rfl⟩) (⟨j1, c3, c6⟩) ?_
         simp only [Act.put, List.setIfInBounds_toArray, List.set_cons_zero, List.set_cons_succ])
  iterate 1
    first
      | (refine mv_take ?_ (Or.inl ⟨by rfl, ?_⟩) (⟨j1, c3, c6⟩) ?_
         rotate_left 1
         · intro u hu
           (try dsimp only at hu)
           go_simp
           try with_reducible rfl
         simp only [Act.put, List.setIfInBounds_toArray, List.set_cons_zero, List.set_cons_succ])
      | (refine mv_take _ (Or.inr ⟨by rfl, rfl⟩) (⟨j1, c3, c6⟩) ?_
         simp only [Act.put, List.setIfInBounds_toArray, List.set_cons_zero, List.set_cons_succ])
  iterate 5
    first
      | (refine mv_free ?_ (Or.inl ⟨by rfl, ?_⟩) (⟨j1, c3, c6⟩) ?_
         rotate_left 1
         · intro u
           go_simp
           try simp only [d1]
           try simp only [d2]
           try simp only [d3]
           try with_reducible rfl
         simp only [Act.put, List.setIfInBounds_toArray, List.set_cons_zero, List.set_cons_succ])
      | (refine mv_free _ (Or.inr ⟨by rfl, rfl⟩) (⟨j1, c3, c6⟩) ?_
         simp only [Act.put, List.setIfInBounds_toArray, List.set_cons_zero, List.set_cons_succ])
  refine mv_done ?_
  clear j0 j1 j2 j3 c0 c3 c6
  replace hN9 := Lib.hid hN9.out.drew.drew
  replace hF9 := Lib.hid hF9.out.drew.drew
  replace hH9 := Lib.hid hH9.out.drew.drew
  replace hb3 := Lib.hid hb3.out.drew.drew
  generalize V2.drew.drew = V3 at *
  clear eV2
  obtain ⟨U, eU, hHU, hOU⟩ := hH9.out.last f0 f1 f2 f3
  have hNU := hN9.out.only hOU (by have := hlt.out; omega)
  have hFU := hF9.out.only hOU (by have := hs1.out; omega)
  replace eU := Lib.hid eU
  replace hHU := Lib.hid hHU
  replace hOU := Lib.hid hOU
  replace hNU := Lib.hid hNU
  replace hFU := Lib.hid hFU
  obtain ⟨j0, j1, j2, j3, -, -, -, -, -⟩ := hF9.out
  have hO := hH9.out
  obtain ⟨c0, g0⟩ := hO.one 0 rfl
  obtain ⟨c1, g1⟩ := hO.one 1 rfl
  obtain ⟨c2, g2⟩ := hO.one 2 rfl
  obtain ⟨c3, g3⟩ := hO.one 3 rfl
  obtain ⟨c4, g4⟩ := hO.one 4 rfl
  obtain ⟨c5, g5⟩ := hO.one 5 rfl
  obtain ⟨c6, g6⟩ := hO.one 6 rfl
  obtain ⟨c7, g7⟩ := hO.one 7 rfl
  obtain ⟨c8, g8⟩ := hO.one 8 rfl
  obtain ⟨c9, g9⟩ := hO.one 9 rfl
  clear hO
  go_upto_region 8 with (fail)
  rw [← eU.out]
  clear c0 g0 c1 g1 c2 g2 c3 g3 c4 g4 c5 g5 c6 g6 c7 g7 c8 g8 c9 g9 j0 j1 j2 j3
  obtain ⟨j0, j1, j2, j3, -, -, -, -, -⟩ := hFU.out
  obtain ⟨u9, e9, hF8, hb9⟩ := (hNU.out).laid 0 0 0 0
  have z0 := hF8.c0
  have z1 := hF8.c1
  have z2 := hF8.c2
  have z3 := hF8.c3
  rw [e9] at z0 z1 z2 z3
  have hR := Lib.hid (hHU.out.below hb9 hlt.out)
  have hBs := Lib.hid (beside4 hb3.out hOU.out hb9)
  rw [e9] at hR hBs
  clear e9 hF8 hb9
  obtain ⟨q0, q1, q2, q3, p0, p1, p2, p3, -⟩ := hNU.out
  go_wp2
  refine bodyPost_ret (v := .tuple #[.agg #[.int .i64 0, .int .i64 0, .int .i64 0, .int .i64 0], .int .i64 5]) (by simp [results, Try.results128, go_sem, z0, z1, z2, z3]) rfl ?_
  exact ⟨rfl, hR.out, hBs.out⟩
end Go.Proofs.Ytbbmkmkalghaeaa
