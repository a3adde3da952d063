/- What package hull makes of spans: heights, speeds, temperatures, true speeds; walked. -/
import Derived.Test.YtecpmffmmiogfaaGreatAir11
import Derived.Test.YtecpmffmmiogfaaGreatHeatZ1
import Derived.Test.YtecpmffmmiogfaaGreatSpeed5
import Derived.Test.YtecpmffmmiogfaaGreatHullOf
import Derived.Deep.Cut
namespace Go.Proofs.YtecpmffmmiogfaaGreat
open Go.ChangeShapes Go.WideShapes Go.ChangeAt Go.RowKit
set_option linter.unusedVariables false
set_option linter.unusedSimpArgs false
def Dbl (n : Int) : Prop := -9223372036854775808 ≤ n ∧ n ≤ 9223372036854775807
theorem AirR.beside {b b' : Nat} {w w' : World} (h : AirR b w) (k : Beside b' w w') (hb : b ≠ b') : AirR b w' := by
  rcases h with ⟨g, h⟩ | h
  · exact .inl ⟨g, h.beside k hb⟩
  · exact .inr (h.beside k hb)
theorem Beside.far {b z : Nat} {w u : World} (h : Beside b w u) (hz : w.heap.size ≤ z) (i : Nat) (v : Value) : Beside b w (u.setCell ⟨z, i, none⟩ v) :=
  ⟨h.os, h.tape, h.output, by simpa using h.size, fun k hk hb => (Below.heap_setCell u ⟨z, i, none⟩ v k (by show k ≠ z; omega)).trans (h.block k hk hb)⟩
theorem AirW.cells2 {wa u : World} (m : AirW wa u) {b : Nat} (hb : wa.heap.size < b) (x y : Value) : AirW wa ((u.setCell ⟨b, 0, none⟩ x).setCell ⟨b, 1, none⟩ y) := by
  have o : Only b u _ := ((Only.refl b u).setCell (p := ⟨b, 0, none⟩) x).setCell (p := ⟨b, 1, none⟩) y
  exact ⟨m.r.beside (.of_only o) (by omega), m.b.trans (o.below (by omega))⟩
theorem hm_box2 (w : World) (a b : Int) : ∃ V, V = ((w.alloc (.cells #[.int .i64 a, .int .i64 b] 51)).alloc (.cells #[.int .i64 0, .int .i64 0] 51)) ∧ Below w.heap.size w V ∧ V.heap.size = w.heap.size + 2 ∧ Held (w.heap.size) [.int .i64 a, .int .i64 b] V ∧ Held (w.heap.size + 1) [.int .i64 0, .int .i64 0] V := by
  refine ⟨_, rfl, (by repeat (first | exact Below.refl _ _ | assumption | apply Below.drew | apply below_drewN | (refine Below.alloc ?_ (by first | exact Nat.le_refl _ | omega | (simp <;> omega)) _) | (refine Below.setCell ?_ (by first | exact Nat.le_refl _ | omega | (simp <;> omega)) _))), by simp, ?_, ?_⟩
  · have := ((Held.new w [.int .i64 a, .int .i64 b] 51).alloc (.cells #[.int .i64 0, .int .i64 0] 51))
    simpa using this
  · have := (Held.new (w.alloc (.cells #[.int .i64 a, .int .i64 b] 51)) [.int .i64 0, .int .i64 0] 51)
    simpa using this
theorem hm_box3 (w : World) (a b c d : Int) : ∃ V, V = (((w.alloc (.cells #[.int .i64 a, .int .i64 b] 51)).alloc (.cells #[.int .i64 c, .int .i64 d] 51)).alloc (.cells #[.int .i64 0, .int .i64 0] 51)) ∧ Below w.heap.size w V ∧ V.heap.size = w.heap.size + 3 ∧ Held (w.heap.size) [.int .i64 a, .int .i64 b] V ∧ Held (w.heap.size + 1) [.int .i64 c, .int .i64 d] V ∧ Held (w.heap.size + 2) [.int .i64 0, .int .i64 0] V := by
  refine ⟨_, rfl, (by repeat (first | exact Below.refl _ _ | assumption | apply Below.drew | apply below_drewN | (refine Below.alloc ?_ (by first | exact Nat.le_refl _ | omega | (simp <;> omega)) _) | (refine Below.setCell ?_ (by first | exact Nat.le_refl _ | omega | (simp <;> omega)) _))), by simp, ?_, ?_, ?_⟩
  · have := (((Held.new w [.int .i64 a, .int .i64 b] 51).alloc (.cells #[.int .i64 c, .int .i64 d] 51)).alloc (.cells #[.int .i64 0, .int .i64 0] 51))
    simpa using this
  · have := ((Held.new (w.alloc (.cells #[.int .i64 a, .int .i64 b] 51)) [.int .i64 c, .int .i64 d] 51).alloc (.cells #[.int .i64 0, .int .i64 0] 51))
    simpa using this
  · have := (Held.new ((w.alloc (.cells #[.int .i64 a, .int .i64 b] 51)).alloc (.cells #[.int .i64 c, .int .i64 d] 51)) [.int .i64 0, .int .i64 0] 51)
    simpa using this
set_option maxRecDepth 100000 in
set_option maxHeartbeats 8000000 in
theorem hheights (a b : Int) (wa w : World) (hm : AirW wa w) (h : a ≤ b) : Calls Tryz.prog 17 #[.pointer (some ⟨wa.heap.size, 0, none⟩), .agg #[.int .i64 a, .int .i64 b]] w fun e w' => e = .returned (.agg #[.int .i64 (heV b), .int .i64 (heV a)]) ∧ AirW wa w' ∧ Beside wa.heap.size w w' := by
  have R0 := fun u => hright_any a b u
  rw [decide_eq_true h] at R0
  replace R0 := Lib.hid R0
  have C0 := Lib.hid (fun u (m : AirW wa u) => aheightW b wa u m)
  have C1 := Lib.hid (fun u (m : AirW wa u) => aheightW a wa u m)
  obtain ⟨R, eR⟩ : ∃ R : Value, R = .agg #[.int .i64 (heV b), .int .i64 (heV a)] := ⟨_, rfl⟩
  rw [← eR]
  generalize heV b = y0 at *
  generalize heV a = y1 at *
  obtain ⟨V, eV, hb0, hz, A0, Z⟩ := hm_box2 w a b
  have hwa := hm.r.lt
  have M := Lib.hid (hm.bel hb0)
  have N := Lib.hid (Beside.of_below (b := wa.heap.size) hb0)
  clear hm hb0
  replace eV := Lib.hid eV
  replace eR := Lib.hid eR
  replace hz := Lib.hid hz
  have q0 := A0
  obtain ⟨c00, f00⟩ := q0.one 0 rfl
  obtain ⟨c01, f01⟩ := q0.one 1 rfl
  clear q0
  replace A0 := Lib.hid A0
  replace Z := Lib.hid Z
  clear h
  go_enter Tryz.func17, Tryz.ntmps17
  go_upto_region 1 with (fail)
  rw [← eV.out]
  go_wp2_with fail
  refine (R0.out _).mono ?_
  rintro e w1 ⟨rfl, hb⟩
  replace A0 := Lib.hid (A0.out.bel hb)
  replace Z := Lib.hid (Z.out.bel hb)
  replace N := Lib.hid (N.out.trans (.of_below hb))
  replace M := Lib.hid (M.out.bel hb)
  clear hb
  clear c00 c01 f00 f01
  have q0 := A0.out
  obtain ⟨c00, f00⟩ := q0.one 0 rfl
  obtain ⟨c01, f01⟩ := q0.one 1 rfl
  clear q0
  go_wp2_with fail
  refine region_moves (fun u => u.cell? ⟨w.heap.size, 0, none⟩ = some (.int .i64 a) ∧ u.cell? ⟨w.heap.size, 1, none⟩ = some (.int .i64 b)) [(9, [(8, 9), (7, 9), (0, 9), (1, 9), (2, 9), (3, 9), (4, 9), (5, 9), (6, 9)])] [(.free, 0), (.free, 1), (.take, 2), (.free, 4), (.free, 5), (.take, 6), (.step, 3), (.step, 7), (.free, 8), (.late, 9)] _ (by kernel_rfl) (by kernel_rfl) (by kernel_rfl) (by kernel_rfl) (by decide) rfl (fun _ _ _ _ _ h => h) ?_
  simp only [List.filterMap_cons, List.filterMap_nil, List.getElem?_toArray, List.getElem?_cons_zero, List.getElem?_cons_succ, Option.map_some]
  iterate 2
    first
      | (refine mv_free ?_ (Or.inl ⟨by rfl, ?_⟩) (⟨c00, c01⟩) ?_
         rotate_left 1
         · intro u
           go_simp
           try with_reducible rfl
         simp only [Act.put, List.setIfInBounds_toArray, List.set_cons_zero, List.set_cons_succ])
      | (refine mv_free _ (Or.inr ⟨by rfl, rfl⟩) (⟨c00, c01⟩) ?_
         simp only [Act.put, List.setIfInBounds_toArray, List.set_cons_zero, List.set_cons_succ])
  iterate 1
    first
      | (refine mv_take ?_ (Or.inl ⟨by rfl, ?_⟩) (⟨c00, c01⟩) ?_
         rotate_left 1
         · intro u hu
           (try dsimp only at hu)
           go_simp
           try with_reducible rfl
         simp only [Act.put, List.setIfInBounds_toArray, List.set_cons_zero, List.set_cons_succ])
      | (refine mv_take _ (Or.inr ⟨by rfl, rfl⟩) (⟨c00, c01⟩) ?_
         simp only [Act.put, List.setIfInBounds_toArray, List.set_cons_zero, List.set_cons_succ])
  iterate 2
    first
      | (refine mv_free ?_ (Or.inl ⟨by rfl, ?_⟩) (⟨c00, c01⟩) ?_
         rotate_left 1
         · intro u
           go_simp
           try with_reducible rfl
         simp only [Act.put, List.setIfInBounds_toArray, List.set_cons_zero, List.set_cons_succ])
      | (refine mv_free _ (Or.inr ⟨by rfl, rfl⟩) (⟨c00, c01⟩) ?_
         simp only [Act.put, List.setIfInBounds_toArray, List.set_cons_zero, List.set_cons_succ])
  iterate 1
    first
      | (refine mv_take ?_ (Or.inl ⟨by rfl, ?_⟩) (⟨c00, c01⟩) ?_
         rotate_left 1
         · intro u hu
           (try dsimp only at hu)
           go_simp
           try with_reducible rfl
         simp only [Act.put, List.setIfInBounds_toArray, List.set_cons_zero, List.set_cons_succ])
      | (refine mv_take _ (Or.inr ⟨by rfl, rfl⟩) (⟨c00, c01⟩) ?_
         simp only [Act.put, List.setIfInBounds_toArray, List.set_cons_zero, List.set_cons_succ])
  refine mv_step (fun K hK => ?_)
  go_simp
  refine (C0.out _ M.out.drew).mono ?_
  rintro e w11 ⟨rfl, m, ob⟩
  replace A0 := Lib.hid (A0.out.drew.beside ob (by omega))
  replace Z := Lib.hid (Z.out.drew.beside ob (by omega))
  replace M := Lib.hid m
  replace N := Lib.hid (N.out.trans (.of_below (Below.refl _ _).drew) |>.trans ob)
  clear m ob
  clear c00 c01 f00 f01
  have q0 := A0.out
  obtain ⟨c00, f00⟩ := q0.one 0 rfl
  obtain ⟨c01, f01⟩ := q0.one 1 rfl
  clear q0
  go_wp2_with fail
  refine hK.out _ _ _ (fun u hu => hu) (⟨c00, c01⟩) ?_
  clear hK K
  refine mv_step (fun K hK => ?_)
  go_simp
  refine (C1.out _ M.out).mono ?_
  rintro e w12 ⟨rfl, m, ob⟩
  replace A0 := Lib.hid (A0.out.beside ob (by omega))
  replace Z := Lib.hid (Z.out.beside ob (by omega))
  replace M := Lib.hid m
  replace N := Lib.hid (N.out.trans ob)
  clear m ob
  clear c00 c01 f00 f01
  have q0 := A0.out
  obtain ⟨c00, f00⟩ := q0.one 0 rfl
  obtain ⟨c01, f01⟩ := q0.one 1 rfl
  clear q0
  go_wp2_with fail
  refine hK.out _ _ _ (fun u hu => hu) (⟨c00, c01⟩) ?_
  clear hK K
  iterate 1
    first
      | (refine mv_free ?_ (Or.inl ⟨by rfl, ?_⟩) (⟨c00, c01⟩) ?_
         rotate_left 1
         · intro u
           go_simp
           try with_reducible rfl
         simp only [Act.put, List.setIfInBounds_toArray, List.set_cons_zero, List.set_cons_succ])
      | (refine mv_free _ (Or.inr ⟨by rfl, rfl⟩) (⟨c00, c01⟩) ?_
         simp only [Act.put, List.setIfInBounds_toArray, List.set_cons_zero, List.set_cons_succ])
  have qz := Z.out
  obtain ⟨d0, g0⟩ := qz.one 0 rfl
  obtain ⟨d1, g1⟩ := qz.one 1 rfl
  clear qz
  refine mv_late (fun K hK => ?_)
  go_simp
  refine hK.out (fun _ => True) _ _ ?_
  clear hK K
  refine mv_done ?_
  have h9 := (Z.out.set 0 (.int .i64 y0) (by simp)).set 1 (.int .i64 y1) (by simp)
  have m9 := Lib.hid (M.out.cells2 (b := w.heap.size + 1) (by omega) (.int .i64 y0) (.int .i64 y1))
  have n9 := Lib.hid ((N.out.far (z := w.heap.size + 1) (by omega) 0 (.int .i64 y0)).far (z := w.heap.size + 1) (by omega) 1 (.int .i64 y1))
  go_wp2
  have h8 := h9
  obtain ⟨p0, r0⟩ := h8.one 0 rfl
  obtain ⟨p1, r1⟩ := h8.one 1 rfl
  first
    | exact bodyPost_ret (v := .agg #[.int .i64 y0, .int .i64 y1]) (by simp [results, Tryz.results17, go_sem, p0, p1]) rfl ⟨by rw [eR.out], m9.out, n9.out⟩
    | exact bodyPost_ret (v := .agg #[.int .i64 y0, .int .i64 y1]) (by simp [results, Tryz.results17, go_sem, p0, p1]) rfl ⟨by rw [eR.out], m9.out.drew, n9.out.trans (.of_below (Below.refl _ _).drew)⟩
set_option maxRecDepth 100000 in
set_option maxHeartbeats 8000000 in
theorem hspeeds (a b : Int) (ga : Dbl a) (gb : Dbl b) (h : a ≤ b) (w : World) : Calls Tryz.prog 18 #[.agg #[.int .i64 a, .int .i64 b]] w fun e w' => e = .returned (.agg #[.int .i64 (spCa a), .int .i64 (spCa b)]) ∧ Below w.heap.size w w' := by
  have R0 := fun u => hright_any a b u
  rw [decide_eq_true h] at R0
  replace R0 := Lib.hid R0
  have C0 := Lib.hid (fun u => scal_any a u ga.1 ga.2)
  have C1 := Lib.hid (fun u => scal_any b u gb.1 gb.2)
  obtain ⟨R, eR⟩ : ∃ R : Value, R = .agg #[.int .i64 (spCa a), .int .i64 (spCa b)] := ⟨_, rfl⟩
  rw [← eR]
  generalize spCa a = y0 at *
  generalize spCa b = y1 at *
  obtain ⟨V, eV, hb0, hz, A0, Z⟩ := hm_box2 w a b
  have M := Lib.hid hb0
  clear hb0
  replace eV := Lib.hid eV
  replace eR := Lib.hid eR
  replace hz := Lib.hid hz
  have q0 := A0
  obtain ⟨c00, f00⟩ := q0.one 0 rfl
  obtain ⟨c01, f01⟩ := q0.one 1 rfl
  clear q0
  replace A0 := Lib.hid A0
  replace Z := Lib.hid Z
  clear h
  go_enter Tryz.func18, Tryz.ntmps18
  go_upto_region 1 with (fail)
  rw [← eV.out]
  go_wp2_with fail
  refine (R0.out _).mono ?_
  rintro e w1 ⟨rfl, hb⟩
  replace A0 := Lib.hid (A0.out.bel hb)
  replace Z := Lib.hid (Z.out.bel hb)
  replace M := Lib.hid (M.out.trans (hb.mono M.out.size))
  clear hb
  clear c00 c01 f00 f01
  have q0 := A0.out
  obtain ⟨c00, f00⟩ := q0.one 0 rfl
  obtain ⟨c01, f01⟩ := q0.one 1 rfl
  clear q0
  go_wp2_with fail
  refine region_moves (fun u => u.cell? ⟨w.heap.size, 0, none⟩ = some (.int .i64 a) ∧ u.cell? ⟨w.heap.size, 1, none⟩ = some (.int .i64 b)) [(7, [(6, 7), (5, 7), (0, 7), (1, 7), (2, 7), (3, 7), (4, 7)])] [(.free, 0), (.take, 1), (.free, 3), (.take, 4), (.step, 2), (.step, 5), (.free, 6), (.late, 7)] _ (by kernel_rfl) (by kernel_rfl) (by kernel_rfl) (by kernel_rfl) (by decide) rfl (fun _ _ _ _ _ h => h) ?_
  simp only [List.filterMap_cons, List.filterMap_nil, List.getElem?_toArray, List.getElem?_cons_zero, List.getElem?_cons_succ, Option.map_some]
  iterate 1
    first
      | (refine mv_free ?_ (Or.inl ⟨by rfl, ?_⟩) (⟨c00, c01⟩) ?_
         rotate_left 1
         · intro u
           go_simp
           try with_reducible rfl
         simp only [Act.put, List.setIfInBounds_toArray, List.set_cons_zero, List.set_cons_succ])
      | (refine mv_free _ (Or.inr ⟨by rfl, rfl⟩) (⟨c00, c01⟩) ?_
         simp only [Act.put, List.setIfInBounds_toArray, List.set_cons_zero, List.set_cons_succ])
  iterate 1
    first
      | (refine mv_take ?_ (Or.inl ⟨by rfl, ?_⟩) (⟨c00, c01⟩) ?_
         rotate_left 1
         · intro u hu
           (try dsimp only at hu)
           go_simp
           try with_reducible rfl
         simp only [Act.put, List.setIfInBounds_toArray, List.set_cons_zero, List.set_cons_succ])
      | (refine mv_take _ (Or.inr ⟨by rfl, rfl⟩) (⟨c00, c01⟩) ?_
         simp only [Act.put, List.setIfInBounds_toArray, List.set_cons_zero, List.set_cons_succ])
  iterate 1
    first
      | (refine mv_free ?_ (Or.inl ⟨by rfl, ?_⟩) (⟨c00, c01⟩) ?_
         rotate_left 1
         · intro u
           go_simp
           try with_reducible rfl
         simp only [Act.put, List.setIfInBounds_toArray, List.set_cons_zero, List.set_cons_succ])
      | (refine mv_free _ (Or.inr ⟨by rfl, rfl⟩) (⟨c00, c01⟩) ?_
         simp only [Act.put, List.setIfInBounds_toArray, List.set_cons_zero, List.set_cons_succ])
  iterate 1
    first
      | (refine mv_take ?_ (Or.inl ⟨by rfl, ?_⟩) (⟨c00, c01⟩) ?_
         rotate_left 1
         · intro u hu
           (try dsimp only at hu)
           go_simp
           try with_reducible rfl
         simp only [Act.put, List.setIfInBounds_toArray, List.set_cons_zero, List.set_cons_succ])
      | (refine mv_take _ (Or.inr ⟨by rfl, rfl⟩) (⟨c00, c01⟩) ?_
         simp only [Act.put, List.setIfInBounds_toArray, List.set_cons_zero, List.set_cons_succ])
  refine mv_step (fun K hK => ?_)
  go_simp
  refine (C0.out _).mono ?_
  rintro e w11 ⟨rfl, hb⟩
  replace A0 := Lib.hid (A0.out.drew.bel hb)
  replace Z := Lib.hid (Z.out.drew.bel hb)
  replace M := Lib.hid (M.out.drew.trans (hb.mono M.out.size))
  clear hb
  clear c00 c01 f00 f01
  have q0 := A0.out
  obtain ⟨c00, f00⟩ := q0.one 0 rfl
  obtain ⟨c01, f01⟩ := q0.one 1 rfl
  clear q0
  go_wp2_with fail
  refine hK.out _ _ _ (fun u hu => hu) (⟨c00, c01⟩) ?_
  clear hK K
  refine mv_step (fun K hK => ?_)
  go_simp
  refine (C1.out _).mono ?_
  rintro e w12 ⟨rfl, hb⟩
  replace A0 := Lib.hid (A0.out.bel hb)
  replace Z := Lib.hid (Z.out.bel hb)
  replace M := Lib.hid (M.out.trans (hb.mono M.out.size))
  clear hb
  clear c00 c01 f00 f01
  have q0 := A0.out
  obtain ⟨c00, f00⟩ := q0.one 0 rfl
  obtain ⟨c01, f01⟩ := q0.one 1 rfl
  clear q0
  go_wp2_with fail
  refine hK.out _ _ _ (fun u hu => hu) (⟨c00, c01⟩) ?_
  clear hK K
  iterate 1
    first
      | (refine mv_free ?_ (Or.inl ⟨by rfl, ?_⟩) (⟨c00, c01⟩) ?_
         rotate_left 1
         · intro u
           go_simp
           try with_reducible rfl
         simp only [Act.put, List.setIfInBounds_toArray, List.set_cons_zero, List.set_cons_succ])
      | (refine mv_free _ (Or.inr ⟨by rfl, rfl⟩) (⟨c00, c01⟩) ?_
         simp only [Act.put, List.setIfInBounds_toArray, List.set_cons_zero, List.set_cons_succ])
  have qz := Z.out
  obtain ⟨d0, g0⟩ := qz.one 0 rfl
  obtain ⟨d1, g1⟩ := qz.one 1 rfl
  clear qz
  refine mv_late (fun K hK => ?_)
  go_simp
  refine hK.out (fun _ => True) _ _ ?_
  clear hK K
  refine mv_done ?_
  have h9 := (Z.out.set 0 (.int .i64 y0) (by simp)).set 1 (.int .i64 y1) (by simp)
  have m9 := Lib.hid ((M.out.setCell (p := ⟨w.heap.size + 1, 0, none⟩) (by show w.heap.size ≤ w.heap.size + 1; omega) (.int .i64 y0)).setCell (p := ⟨w.heap.size + 1, 1, none⟩) (by show w.heap.size ≤ w.heap.size + 1; omega) (.int .i64 y1))
  go_wp2
  have h8 := h9
  obtain ⟨p0, r0⟩ := h8.one 0 rfl
  obtain ⟨p1, r1⟩ := h8.one 1 rfl
  first
    | exact bodyPost_ret (v := .agg #[.int .i64 y0, .int .i64 y1]) (by simp [results, Tryz.results18, go_sem, p0, p1]) rfl ⟨by rw [eR.out], m9.out⟩
    | exact bodyPost_ret (v := .agg #[.int .i64 y0, .int .i64 y1]) (by simp [results, Tryz.results18, go_sem, p0, p1]) rfl ⟨by rw [eR.out], m9.out.drew⟩
set_option maxRecDepth 100000 in
set_option maxHeartbeats 8000000 in
theorem htemps (a b c d r : Int) (h : a ≤ b) (k : c ≤ d) (w : World) : Calls Tryz.prog 19 #[.agg #[.int .i64 a, .int .i64 b], .agg #[.int .i64 c, .int .i64 d], .int .i64 r] w fun e w' => e = .returned (.agg #[.int .i64 (htS a d r), .int .i64 (htS b c r)]) ∧ Below w.heap.size w w' := by
  have R0 := fun u => hright_any a b u
  rw [decide_eq_true h] at R0
  replace R0 := Lib.hid R0
  have R1 := fun u => hright_any c d u
  rw [decide_eq_true k] at R1
  replace R1 := Lib.hid R1
  have C0 := Lib.hid (fun u => hstatic_any a d r u)
  have C1 := Lib.hid (fun u => hstatic_any b c r u)
  obtain ⟨R, eR⟩ : ∃ R : Value, R = .agg #[.int .i64 (htS a d r), .int .i64 (htS b c r)] := ⟨_, rfl⟩
  rw [← eR]
  generalize htS a d r = y0 at *
  generalize htS b c r = y1 at *
  obtain ⟨V, eV, hb0, hz, A0, A1, Z⟩ := hm_box3 w a b c d
  have M := Lib.hid hb0
  clear hb0
  replace eV := Lib.hid eV
  replace eR := Lib.hid eR
  replace hz := Lib.hid hz
  have q0 := A0
  obtain ⟨c00, f00⟩ := q0.one 0 rfl
  obtain ⟨c01, f01⟩ := q0.one 1 rfl
  clear q0
  replace A0 := Lib.hid A0
  have q1 := A1
  obtain ⟨c10, f10⟩ := q1.one 0 rfl
  obtain ⟨c11, f11⟩ := q1.one 1 rfl
  clear q1
  replace A1 := Lib.hid A1
  replace Z := Lib.hid Z
  clear h k
  go_enter Tryz.func19, Tryz.ntmps19
  go_upto_region 1 with (fail)
  rw [← eV.out]
  go_wp2_with fail
  refine (R0.out _).mono ?_
  rintro e w1 ⟨rfl, hb⟩
  replace A0 := Lib.hid (A0.out.bel hb)
  replace A1 := Lib.hid (A1.out.bel hb)
  replace Z := Lib.hid (Z.out.bel hb)
  replace M := Lib.hid (M.out.trans (hb.mono M.out.size))
  clear hb
  clear c00 c01 f00 f01
  have q0 := A0.out
  obtain ⟨c00, f00⟩ := q0.one 0 rfl
  obtain ⟨c01, f01⟩ := q0.one 1 rfl
  clear q0
  clear c10 c11 f10 f11
  have q1 := A1.out
  obtain ⟨c10, f10⟩ := q1.one 0 rfl
  obtain ⟨c11, f11⟩ := q1.one 1 rfl
  clear q1
  go_wp2_with fail
  refine (R1.out _).mono ?_
  rintro e w2 ⟨rfl, hb⟩
  replace A0 := Lib.hid (A0.out.bel hb)
  replace A1 := Lib.hid (A1.out.bel hb)
  replace Z := Lib.hid (Z.out.bel hb)
  replace M := Lib.hid (M.out.trans (hb.mono M.out.size))
  clear hb
  clear c00 c01 f00 f01
  have q0 := A0.out
  obtain ⟨c00, f00⟩ := q0.one 0 rfl
  obtain ⟨c01, f01⟩ := q0.one 1 rfl
  clear q0
  clear c10 c11 f10 f11
  have q1 := A1.out
  obtain ⟨c10, f10⟩ := q1.one 0 rfl
  obtain ⟨c11, f11⟩ := q1.one 1 rfl
  clear q1
  go_wp2_with fail
  refine region_moves (fun u => u.cell? ⟨w.heap.size, 0, none⟩ = some (.int .i64 a) ∧ u.cell? ⟨w.heap.size, 1, none⟩ = some (.int .i64 b) ∧ u.cell? ⟨w.heap.size + 1, 0, none⟩ = some (.int .i64 c) ∧ u.cell? ⟨w.heap.size + 1, 1, none⟩ = some (.int .i64 d)) [(13, [(12, 13), (11, 13), (0, 13), (1, 13), (2, 13), (3, 13), (4, 13), (5, 13), (6, 13), (7, 13), (8, 13), (9, 13), (10, 13)])] [(.free, 0), (.take, 1), (.free, 2), (.take, 3), (.free, 4), (.free, 6), (.take, 7), (.free, 8), (.take, 9), (.free, 10), (.step, 5), (.step, 11), (.free, 12), (.late, 13)] _ (by kernel_rfl) (by kernel_rfl) (by kernel_rfl) (by kernel_rfl) (by decide) rfl (fun _ _ _ _ _ h => h) ?_
  simp only [List.filterMap_cons, List.filterMap_nil, List.getElem?_toArray, List.getElem?_cons_zero, List.getElem?_cons_succ, Option.map_some]
  iterate 1
    first
      | (refine mv_free ?_ (Or.inl ⟨by rfl, ?_⟩) (⟨c00, c01, c10, c11⟩) ?_
         rotate_left 1
         · intro u
           go_simp
           try with_reducible rfl
         simp only [Act.put, List.setIfInBounds_toArray, List.set_cons_zero, List.set_cons_succ])
      | (refine mv_free _ (Or.inr ⟨by rfl, rfl⟩) (⟨c00, c01, c10, c11⟩) ?_
         simp only [Act.put, List.setIfInBounds_toArray, List.set_cons_zero, List.set_cons_succ])
  iterate 1
    first
      | (refine mv_take ?_ (Or.inl ⟨by rfl, ?_⟩) (⟨c00, c01, c10, c11⟩) ?_
         rotate_left 1
         · intro u hu
           (try dsimp only at hu)
           go_simp
           try with_reducible rfl
         simp only [Act.put, List.setIfInBounds_toArray, List.set_cons_zero, List.set_cons_succ])
      | (refine mv_take _ (Or.inr ⟨by rfl, rfl⟩) (⟨c00, c01, c10, c11⟩) ?_
         simp only [Act.put, List.setIfInBounds_toArray, List.set_cons_zero, List.set_cons_succ])
  iterate 1
    first
      | (refine mv_free ?_ (Or.inl ⟨by rfl, ?_⟩) (⟨c00, c01, c10, c11⟩) ?_
         rotate_left 1
         · intro u
           go_simp
           try with_reducible rfl
         simp only [Act.put, List.setIfInBounds_toArray, List.set_cons_zero, List.set_cons_succ])
      | (refine mv_free _ (Or.inr ⟨by rfl, rfl⟩) (⟨c00, c01, c10, c11⟩) ?_
         simp only [Act.put, List.setIfInBounds_toArray, List.set_cons_zero, List.set_cons_succ])
  iterate 1
    first
      | (refine mv_take ?_ (Or.inl ⟨by rfl, ?_⟩) (⟨c00, c01, c10, c11⟩) ?_
         rotate_left 1
         · intro u hu
           (try dsimp only at hu)
           go_simp
           try with_reducible rfl
         simp only [Act.put, List.setIfInBounds_toArray, List.set_cons_zero, List.set_cons_succ])
      | (refine mv_take _ (Or.inr ⟨by rfl, rfl⟩) (⟨c00, c01, c10, c11⟩) ?_
         simp only [Act.put, List.setIfInBounds_toArray, List.set_cons_zero, List.set_cons_succ])
  iterate 2
    first
      | (refine mv_free ?_ (Or.inl ⟨by rfl, ?_⟩) (⟨c00, c01, c10, c11⟩) ?_
         rotate_left 1
         · intro u
           go_simp
           try with_reducible rfl
         simp only [Act.put, List.setIfInBounds_toArray, List.set_cons_zero, List.set_cons_succ])
      | (refine mv_free _ (Or.inr ⟨by rfl, rfl⟩) (⟨c00, c01, c10, c11⟩) ?_
         simp only [Act.put, List.setIfInBounds_toArray, List.set_cons_zero, List.set_cons_succ])
  iterate 1
    first
      | (refine mv_take ?_ (Or.inl ⟨by rfl, ?_⟩) (⟨c00, c01, c10, c11⟩) ?_
         rotate_left 1
         · intro u hu
           (try dsimp only at hu)
           go_simp
           try with_reducible rfl
         simp only [Act.put, List.setIfInBounds_toArray, List.set_cons_zero, List.set_cons_succ])
      | (refine mv_take _ (Or.inr ⟨by rfl, rfl⟩) (⟨c00, c01, c10, c11⟩) ?_
         simp only [Act.put, List.setIfInBounds_toArray, List.set_cons_zero, List.set_cons_succ])
  iterate 1
    first
      | (refine mv_free ?_ (Or.inl ⟨by rfl, ?_⟩) (⟨c00, c01, c10, c11⟩) ?_
         rotate_left 1
         · intro u
           go_simp
           try with_reducible rfl
         simp only [Act.put, List.setIfInBounds_toArray, List.set_cons_zero, List.set_cons_succ])
      | (refine mv_free _ (Or.inr ⟨by rfl, rfl⟩) (⟨c00, c01, c10, c11⟩) ?_
         simp only [Act.put, List.setIfInBounds_toArray, List.set_cons_zero, List.set_cons_succ])
  iterate 1
    first
      | (refine mv_take ?_ (Or.inl ⟨by rfl, ?_⟩) (⟨c00, c01, c10, c11⟩) ?_
         rotate_left 1
         · intro u hu
           (try dsimp only at hu)
           go_simp
           try with_reducible rfl
         simp only [Act.put, List.setIfInBounds_toArray, List.set_cons_zero, List.set_cons_succ])
      | (refine mv_take _ (Or.inr ⟨by rfl, rfl⟩) (⟨c00, c01, c10, c11⟩) ?_
         simp only [Act.put, List.setIfInBounds_toArray, List.set_cons_zero, List.set_cons_succ])
  iterate 1
    first
      | (refine mv_free ?_ (Or.inl ⟨by rfl, ?_⟩) (⟨c00, c01, c10, c11⟩) ?_
         rotate_left 1
         · intro u
           go_simp
           try with_reducible rfl
         simp only [Act.put, List.setIfInBounds_toArray, List.set_cons_zero, List.set_cons_succ])
      | (refine mv_free _ (Or.inr ⟨by rfl, rfl⟩) (⟨c00, c01, c10, c11⟩) ?_
         simp only [Act.put, List.setIfInBounds_toArray, List.set_cons_zero, List.set_cons_succ])
  refine mv_step (fun K hK => ?_)
  go_simp
  refine (C0.out _).mono ?_
  rintro e w11 ⟨rfl, hb⟩
  replace A0 := Lib.hid (A0.out.drew.bel hb)
  replace A1 := Lib.hid (A1.out.drew.bel hb)
  replace Z := Lib.hid (Z.out.drew.bel hb)
  replace M := Lib.hid (M.out.drew.trans (hb.mono M.out.size))
  clear hb
  clear c00 c01 f00 f01
  have q0 := A0.out
  obtain ⟨c00, f00⟩ := q0.one 0 rfl
  obtain ⟨c01, f01⟩ := q0.one 1 rfl
  clear q0
  clear c10 c11 f10 f11
  have q1 := A1.out
  obtain ⟨c10, f10⟩ := q1.one 0 rfl
  obtain ⟨c11, f11⟩ := q1.one 1 rfl
  clear q1
  go_wp2_with fail
  refine hK.out _ _ _ (fun u hu => hu) (⟨c00, c01, c10, c11⟩) ?_
  clear hK K
  refine mv_step (fun K hK => ?_)
  go_simp
  refine (C1.out _).mono ?_
  rintro e w12 ⟨rfl, hb⟩
  replace A0 := Lib.hid (A0.out.bel hb)
  replace A1 := Lib.hid (A1.out.bel hb)
  replace Z := Lib.hid (Z.out.bel hb)
  replace M := Lib.hid (M.out.trans (hb.mono M.out.size))
  clear hb
  clear c00 c01 f00 f01
  have q0 := A0.out
  obtain ⟨c00, f00⟩ := q0.one 0 rfl
  obtain ⟨c01, f01⟩ := q0.one 1 rfl
  clear q0
  clear c10 c11 f10 f11
  have q1 := A1.out
  obtain ⟨c10, f10⟩ := q1.one 0 rfl
  obtain ⟨c11, f11⟩ := q1.one 1 rfl
  clear q1
  go_wp2_with fail
  refine hK.out _ _ _ (fun u hu => hu) (⟨c00, c01, c10, c11⟩) ?_
  clear hK K
  iterate 1
    first
      | (refine mv_free ?_ (Or.inl ⟨by rfl, ?_⟩) (⟨c00, c01, c10, c11⟩) ?_
         rotate_left 1
         · intro u
           go_simp
           try with_reducible rfl
         simp only [Act.put, List.setIfInBounds_toArray, List.set_cons_zero, List.set_cons_succ])
      | (refine mv_free _ (Or.inr ⟨by rfl, rfl⟩) (⟨c00, c01, c10, c11⟩) ?_
         simp only [Act.put, List.setIfInBounds_toArray, List.set_cons_zero, List.set_cons_succ])
  have qz := Z.out
  obtain ⟨d0, g0⟩ := qz.one 0 rfl
  obtain ⟨d1, g1⟩ := qz.one 1 rfl
  clear qz
  refine mv_late (fun K hK => ?_)
  go_simp
  refine hK.out (fun _ => True) _ _ ?_
  clear hK K
  refine mv_done ?_
  have h9 := (Z.out.set 0 (.int .i64 y0) (by simp)).set 1 (.int .i64 y1) (by simp)
  have m9 := Lib.hid ((M.out.setCell (p := ⟨w.heap.size + 2, 0, none⟩) (by show w.heap.size ≤ w.heap.size + 2; omega) (.int .i64 y0)).setCell (p := ⟨w.heap.size + 2, 1, none⟩) (by show w.heap.size ≤ w.heap.size + 2; omega) (.int .i64 y1))
  go_wp2
  have h8 := h9
  obtain ⟨p0, r0⟩ := h8.one 0 rfl
  obtain ⟨p1, r1⟩ := h8.one 1 rfl
  first
    | exact bodyPost_ret (v := .agg #[.int .i64 y0, .int .i64 y1]) (by simp [results, Tryz.results19, go_sem, p0, p1]) rfl ⟨by rw [eR.out], m9.out⟩
    | exact bodyPost_ret (v := .agg #[.int .i64 y0, .int .i64 y1]) (by simp [results, Tryz.results19, go_sem, p0, p1]) rfl ⟨by rw [eR.out], m9.out.drew⟩
set_option maxRecDepth 100000 in
set_option maxHeartbeats 8000000 in
theorem htrues (a b c d : Int) (h : a ≤ b) (k : c ≤ d) (w : World) : Calls Tryz.prog 20 #[.agg #[.int .i64 a, .int .i64 b], .agg #[.int .i64 c, .int .i64 d]] w fun e w' => e = .returned (.agg #[.int .i64 (spTr a c), .int .i64 (spTr b d)]) ∧ Below w.heap.size w w' := by
  have R0 := fun u => hright_any a b u
  rw [decide_eq_true h] at R0
  replace R0 := Lib.hid R0
  have R1 := fun u => hright_any c d u
  rw [decide_eq_true k] at R1
  replace R1 := Lib.hid R1
  have C0 := Lib.hid (fun u => strue_any a c u)
  have C1 := Lib.hid (fun u => strue_any b d u)
  obtain ⟨R, eR⟩ : ∃ R : Value, R = .agg #[.int .i64 (spTr a c), .int .i64 (spTr b d)] := ⟨_, rfl⟩
  rw [← eR]
  generalize spTr a c = y0 at *
  generalize spTr b d = y1 at *
  obtain ⟨V, eV, hb0, hz, A0, A1, Z⟩ := hm_box3 w a b c d
  have M := Lib.hid hb0
  clear hb0
  replace eV := Lib.hid eV
  replace eR := Lib.hid eR
  replace hz := Lib.hid hz
  have q0 := A0
  obtain ⟨c00, f00⟩ := q0.one 0 rfl
  obtain ⟨c01, f01⟩ := q0.one 1 rfl
  clear q0
  replace A0 := Lib.hid A0
  have q1 := A1
  obtain ⟨c10, f10⟩ := q1.one 0 rfl
  obtain ⟨c11, f11⟩ := q1.one 1 rfl
  clear q1
  replace A1 := Lib.hid A1
  replace Z := Lib.hid Z
  clear h k
  go_enter Tryz.func20, Tryz.ntmps20
  go_upto_region 1 with (fail)
  rw [← eV.out]
  go_wp2_with fail
  refine (R0.out _).mono ?_
  rintro e w1 ⟨rfl, hb⟩
  replace A0 := Lib.hid (A0.out.bel hb)
  replace A1 := Lib.hid (A1.out.bel hb)
  replace Z := Lib.hid (Z.out.bel hb)
  replace M := Lib.hid (M.out.trans (hb.mono M.out.size))
  clear hb
  clear c00 c01 f00 f01
  have q0 := A0.out
  obtain ⟨c00, f00⟩ := q0.one 0 rfl
  obtain ⟨c01, f01⟩ := q0.one 1 rfl
  clear q0
  clear c10 c11 f10 f11
  have q1 := A1.out
  obtain ⟨c10, f10⟩ := q1.one 0 rfl
  obtain ⟨c11, f11⟩ := q1.one 1 rfl
  clear q1
  go_wp2_with fail
  refine (R1.out _).mono ?_
  rintro e w2 ⟨rfl, hb⟩
  replace A0 := Lib.hid (A0.out.bel hb)
  replace A1 := Lib.hid (A1.out.bel hb)
  replace Z := Lib.hid (Z.out.bel hb)
  replace M := Lib.hid (M.out.trans (hb.mono M.out.size))
  clear hb
  clear c00 c01 f00 f01
  have q0 := A0.out
  obtain ⟨c00, f00⟩ := q0.one 0 rfl
  obtain ⟨c01, f01⟩ := q0.one 1 rfl
  clear q0
  clear c10 c11 f10 f11
  have q1 := A1.out
  obtain ⟨c10, f10⟩ := q1.one 0 rfl
  obtain ⟨c11, f11⟩ := q1.one 1 rfl
  clear q1
  go_wp2_with fail
  refine region_moves (fun u => u.cell? ⟨w.heap.size, 0, none⟩ = some (.int .i64 a) ∧ u.cell? ⟨w.heap.size, 1, none⟩ = some (.int .i64 b) ∧ u.cell? ⟨w.heap.size + 1, 0, none⟩ = some (.int .i64 c) ∧ u.cell? ⟨w.heap.size + 1, 1, none⟩ = some (.int .i64 d)) [(11, [(10, 11), (9, 11), (0, 11), (1, 11), (2, 11), (3, 11), (4, 11), (5, 11), (6, 11), (7, 11), (8, 11)])] [(.free, 0), (.take, 1), (.free, 2), (.take, 3), (.free, 5), (.take, 6), (.free, 7), (.take, 8), (.step, 4), (.step, 9), (.free, 10), (.late, 11)] _ (by kernel_rfl) (by kernel_rfl) (by kernel_rfl) (by kernel_rfl) (by decide) rfl (fun _ _ _ _ _ h => h) ?_
  simp only [List.filterMap_cons, List.filterMap_nil, List.getElem?_toArray, List.getElem?_cons_zero, List.getElem?_cons_succ, Option.map_some]
  iterate 1
    first
      | (refine mv_free ?_ (Or.inl ⟨by rfl, ?_⟩) (⟨c00, c01, c10, c11⟩) ?_
         rotate_left 1
         · intro u
           go_simp
           try with_reducible rfl
         simp only [Act.put, List.setIfInBounds_toArray, List.set_cons_zero, List.set_cons_succ])
      | (refine mv_free _ (Or.inr ⟨by rfl, rfl⟩) (⟨c00, c01, c10, c11⟩) ?_
         simp only [Act.put, List.setIfInBounds_toArray, List.set_cons_zero, List.set_cons_succ])
  iterate 1
    first
      | (refine mv_take ?_ (Or.inl ⟨by rfl, ?_⟩) (⟨c00, c01, c10, c11⟩) ?_
         rotate_left 1
         · intro u hu
           (try dsimp only at hu)
           go_simp
           try with_reducible rfl
         simp only [Act.put, List.setIfInBounds_toArray, List.set_cons_zero, List.set_cons_succ])
      | (refine mv_take _ (Or.inr ⟨by rfl, rfl⟩) (⟨c00, c01, c10, c11⟩) ?_
         simp only [Act.put, List.setIfInBounds_toArray, List.set_cons_zero, List.set_cons_succ])
  iterate 1
    first
      | (refine mv_free ?_ (Or.inl ⟨by rfl, ?_⟩) (⟨c00, c01, c10, c11⟩) ?_
         rotate_left 1
         · intro u
           go_simp
           try with_reducible rfl
         simp only [Act.put, List.setIfInBounds_toArray, List.set_cons_zero, List.set_cons_succ])
      | (refine mv_free _ (Or.inr ⟨by rfl, rfl⟩) (⟨c00, c01, c10, c11⟩) ?_
         simp only [Act.put, List.setIfInBounds_toArray, List.set_cons_zero, List.set_cons_succ])
  iterate 1
    first
      | (refine mv_take ?_ (Or.inl ⟨by rfl, ?_⟩) (⟨c00, c01, c10, c11⟩) ?_
         rotate_left 1
         · intro u hu
           (try dsimp only at hu)
           go_simp
           try with_reducible rfl
         simp only [Act.put, List.setIfInBounds_toArray, List.set_cons_zero, List.set_cons_succ])
      | (refine mv_take _ (Or.inr ⟨by rfl, rfl⟩) (⟨c00, c01, c10, c11⟩) ?_
         simp only [Act.put, List.setIfInBounds_toArray, List.set_cons_zero, List.set_cons_succ])
  iterate 1
    first
      | (refine mv_free ?_ (Or.inl ⟨by rfl, ?_⟩) (⟨c00, c01, c10, c11⟩) ?_
         rotate_left 1
         · intro u
           go_simp
           try with_reducible rfl
         simp only [Act.put, List.setIfInBounds_toArray, List.set_cons_zero, List.set_cons_succ])
      | (refine mv_free _ (Or.inr ⟨by rfl, rfl⟩) (⟨c00, c01, c10, c11⟩) ?_
         simp only [Act.put, List.setIfInBounds_toArray, List.set_cons_zero, List.set_cons_succ])
  iterate 1
    first
      | (refine mv_take ?_ (Or.inl ⟨by rfl, ?_⟩) (⟨c00, c01, c10, c11⟩) ?_
         rotate_left 1
         · intro u hu
           (try dsimp only at hu)
           go_simp
           try with_reducible rfl
         simp only [Act.put, List.setIfInBounds_toArray, List.set_cons_zero, List.set_cons_succ])
      | (refine mv_take _ (Or.inr ⟨by rfl, rfl⟩) (⟨c00, c01, c10, c11⟩) ?_
         simp only [Act.put, List.setIfInBounds_toArray, List.set_cons_zero, List.set_cons_succ])
  iterate 1
    first
      | (refine mv_free ?_ (Or.inl ⟨by rfl, ?_⟩) (⟨c00, c01, c10, c11⟩) ?_
         rotate_left 1
         · intro u
           go_simp
           try with_reducible rfl
         simp only [Act.put, List.setIfInBounds_toArray, List.set_cons_zero, List.set_cons_succ])
      | (refine mv_free _ (Or.inr ⟨by rfl, rfl⟩) (⟨c00, c01, c10, c11⟩) ?_
         simp only [Act.put, List.setIfInBounds_toArray, List.set_cons_zero, List.set_cons_succ])
  iterate 1
    first
      | (refine mv_take ?_ (Or.inl ⟨by rfl, ?_⟩) (⟨c00, c01, c10, c11⟩) ?_
         rotate_left 1
         · intro u hu
           (try dsimp only at hu)
           go_simp
           try with_reducible rfl
         simp only [Act.put, List.setIfInBounds_toArray, List.set_cons_zero, List.set_cons_succ])
      | (refine mv_take _ (Or.inr ⟨by rfl, rfl⟩) (⟨c00, c01, c10, c11⟩) ?_
         simp only [Act.put, List.setIfInBounds_toArray, List.set_cons_zero, List.set_cons_succ])
  refine mv_step (fun K hK => ?_)
  go_simp
  refine (C0.out _).mono ?_
  rintro e w11 ⟨rfl, rfl⟩
  clear c00 c01 f00 f01
  have q0 := A0.out
  obtain ⟨c00, f00⟩ := q0.one 0 rfl
  obtain ⟨c01, f01⟩ := q0.one 1 rfl
  clear q0
  clear c10 c11 f10 f11
  have q1 := A1.out
  obtain ⟨c10, f10⟩ := q1.one 0 rfl
  obtain ⟨c11, f11⟩ := q1.one 1 rfl
  clear q1
  go_wp2_with fail
  refine hK.out _ _ _ (fun u hu => hu) (⟨c00, c01, c10, c11⟩) ?_
  clear hK K
  refine mv_step (fun K hK => ?_)
  go_simp
  refine (C1.out _).mono ?_
  rintro e w12 ⟨rfl, rfl⟩
  clear c00 c01 f00 f01
  have q0 := A0.out
  obtain ⟨c00, f00⟩ := q0.one 0 rfl
  obtain ⟨c01, f01⟩ := q0.one 1 rfl
  clear q0
  clear c10 c11 f10 f11
  have q1 := A1.out
  obtain ⟨c10, f10⟩ := q1.one 0 rfl
  obtain ⟨c11, f11⟩ := q1.one 1 rfl
  clear q1
  go_wp2_with fail
  refine hK.out _ _ _ (fun u hu => hu) (⟨c00, c01, c10, c11⟩) ?_
  clear hK K
  iterate 1
    first
      | (refine mv_free ?_ (Or.inl ⟨by rfl, ?_⟩) (⟨c00, c01, c10, c11⟩) ?_
         rotate_left 1
         · intro u
           go_simp
           try with_reducible rfl
         simp only [Act.put, List.setIfInBounds_toArray, List.set_cons_zero, List.set_cons_succ])
      | (refine mv_free _ (Or.inr ⟨by rfl, rfl⟩) (⟨c00, c01, c10, c11⟩) ?_
         simp only [Act.put, List.setIfInBounds_toArray, List.set_cons_zero, List.set_cons_succ])
  have qz := Z.out
  obtain ⟨d0, g0⟩ := qz.one 0 rfl
  obtain ⟨d1, g1⟩ := qz.one 1 rfl
  clear qz
  refine mv_late (fun K hK => ?_)
  go_simp
  refine hK.out (fun _ => True) _ _ ?_
  clear hK K
  refine mv_done ?_
  have h9 := (Z.out.set 0 (.int .i64 y0) (by simp)).set 1 (.int .i64 y1) (by simp)
  have m9 := Lib.hid ((M.out.setCell (p := ⟨w.heap.size + 2, 0, none⟩) (by show w.heap.size ≤ w.heap.size + 2; omega) (.int .i64 y0)).setCell (p := ⟨w.heap.size + 2, 1, none⟩) (by show w.heap.size ≤ w.heap.size + 2; omega) (.int .i64 y1))
  go_wp2
  have h8 := h9
  obtain ⟨p0, r0⟩ := h8.one 0 rfl
  obtain ⟨p1, r1⟩ := h8.one 1 rfl
  first
    | exact bodyPost_ret (v := .agg #[.int .i64 y0, .int .i64 y1]) (by simp [results, Tryz.results20, go_sem, p0, p1]) rfl ⟨by rw [eR.out], m9.out⟩
    | exact bodyPost_ret (v := .agg #[.int .i64 y0, .int .i64 y1]) (by simp [results, Tryz.results20, go_sem, p0, p1]) rfl ⟨by rw [eR.out], m9.out.drew⟩
end Go.Proofs.YtecpmffmmiogfaaGreat
