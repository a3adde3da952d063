/- The phases' names; the chapter's example; the laws PhaseAsks and PhaseNew. -/
import Derived.Test.YtlhejkaedgelnaaPhase4
import Derived.DeepKeys
namespace Go.Proofs.Ytlhejkaedgelnaa
open Go.ChangeShapes Go.WideShapes Go.ChangeAt Go.RowKit
set_option linter.unusedVariables false
set_option linter.unusedSimpArgs false
theorem info_int6 : ∃ i, Try.prog.info? 3 = some i := info_of_underlying Try.underlying3
theorem cel_int6 : Try.prog.cellsOf 3 = 1 := by kernel_rfl
theorem part_int6 (xs : Array Value) (off : Nat) (v : Value) (w : World) (h : xs[off]? = some v) : (part 3 xs off).run Try.prog w = .ok v w := run_part_plain w (by kernel_rfl) h
theorem eq_int6 (d : Nat) (x : Int) (w : World) : (Op.equalIn (d + 1) 3 (.int .i64 x) (.int .i64 x)).run Try.prog w = .ok true w := by
  rw [run_equalIn_int w d 3 .i64 .i64 x x Try.underlying3]
  simp
theorem teq6 (x0 x1 x2 x3 x4 x5 : Int) (w : World) : (Op.equalIn 10000 101 (.agg #[.int .i64 x0, .int .i64 x1, .int .i64 x2, .int .i64 x3, .int .i64 x4, .int .i64 x5]) (.agg #[.int .i64 x0, .int .i64 x1, .int .i64 x2, .int .i64 x3, .int .i64 x4, .int .i64 x5])).run Try.prog w = .ok true w := by
  obtain ⟨i, hi⟩ := info_int6
  have hc := cel_int6
  rw [show 10000 = 9999 + 1 from rfl, run_equalIn_array w 9999 _ _ Try.underlying101 hi, hc, show List.range 6 = [0, 1, 2, 3, 4, 5] from rfl]
  have p0 : (part 3 #[.int .i64 x0, .int .i64 x1, .int .i64 x2, .int .i64 x3, .int .i64 x4, .int .i64 x5] 0).run Try.prog w = .ok (.int .i64 x0) w := part_int6 _ _ _ w rfl
  have p1 : (part 3 #[.int .i64 x0, .int .i64 x1, .int .i64 x2, .int .i64 x3, .int .i64 x4, .int .i64 x5] 1).run Try.prog w = .ok (.int .i64 x1) w := part_int6 _ _ _ w rfl
  have p2 : (part 3 #[.int .i64 x0, .int .i64 x1, .int .i64 x2, .int .i64 x3, .int .i64 x4, .int .i64 x5] 2).run Try.prog w = .ok (.int .i64 x2) w := part_int6 _ _ _ w rfl
  have p3 : (part 3 #[.int .i64 x0, .int .i64 x1, .int .i64 x2, .int .i64 x3, .int .i64 x4, .int .i64 x5] 3).run Try.prog w = .ok (.int .i64 x3) w := part_int6 _ _ _ w rfl
  have p4 : (part 3 #[.int .i64 x0, .int .i64 x1, .int .i64 x2, .int .i64 x3, .int .i64 x4, .int .i64 x5] 4).run Try.prog w = .ok (.int .i64 x4) w := part_int6 _ _ _ w rfl
  have p5 : (part 3 #[.int .i64 x0, .int .i64 x1, .int .i64 x2, .int .i64 x3, .int .i64 x4, .int .i64 x5] 5).run Try.prog w = .ok (.int .i64 x5) w := part_int6 _ _ _ w rfl
  simp [Op.eqItems, p0, p1, p2, p3, p4, p5, eq_int6 9998]
set_option maxRecDepth 100000 in
set_option maxHeartbeats 8000000 in
theorem pname0 (w : World) : Calls Try.prog 49 #[.int .i64 0] w fun e w' => e = .returned (.string ⟨#[103, 114, 111, 117, 110, 100]⟩) ∧ Below w.heap.size w w' := by
  have PI := Lib.hid (fun u => show Calls Try.prog 84 #[.int .i64 0] u fun e w' => e = .returned (.bool true) ∧ u = w' from pisph 0 u)
  go_enter Try.func49, Try.ntmps49
  go_wp2_with (go_at_call 84; refine (PI.out _).mono ?_; rintro e w1 ⟨rfl, rfl⟩)
  go_ret
  exact ⟨rfl, (by repeat (first | exact Below.refl _ _ | assumption | apply Below.drew | apply below_drewN | (refine Below.alloc ?_ (by first | exact Nat.le_refl _ | omega | (simp <;> omega)) _) | (refine Below.setCell ?_ (by first | exact Nat.le_refl _ | omega | (simp <;> omega)) _)))⟩
set_option maxRecDepth 100000 in
set_option maxHeartbeats 8000000 in
theorem pname1 (w : World) : Calls Try.prog 49 #[.int .i64 1] w fun e w' => e = .returned (.string ⟨#[116, 97, 107, 101, 111, 102, 102]⟩) ∧ Below w.heap.size w w' := by
  have PI := Lib.hid (fun u => show Calls Try.prog 84 #[.int .i64 1] u fun e w' => e = .returned (.bool true) ∧ u = w' from pisph 1 u)
  go_enter Try.func49, Try.ntmps49
  go_wp2_with (go_at_call 84; refine (PI.out _).mono ?_; rintro e w1 ⟨rfl, rfl⟩)
  go_ret
  exact ⟨rfl, (by repeat (first | exact Below.refl _ _ | assumption | apply Below.drew | apply below_drewN | (refine Below.alloc ?_ (by first | exact Nat.le_refl _ | omega | (simp <;> omega)) _) | (refine Below.setCell ?_ (by first | exact Nat.le_refl _ | omega | (simp <;> omega)) _)))⟩
set_option maxRecDepth 100000 in
set_option maxHeartbeats 8000000 in
theorem pname2 (w : World) : Calls Try.prog 49 #[.int .i64 2] w fun e w' => e = .returned (.string ⟨#[99, 108, 105, 109, 98]⟩) ∧ Below w.heap.size w w' := by
  have PI := Lib.hid (fun u => show Calls Try.prog 84 #[.int .i64 2] u fun e w' => e = .returned (.bool true) ∧ u = w' from pisph 2 u)
  go_enter Try.func49, Try.ntmps49
  go_wp2_with (go_at_call 84; refine (PI.out _).mono ?_; rintro e w1 ⟨rfl, rfl⟩)
  go_ret
  exact ⟨rfl, (by repeat (first | exact Below.refl _ _ | assumption | apply Below.drew | apply below_drewN | (refine Below.alloc ?_ (by first | exact Nat.le_refl _ | omega | (simp <;> omega)) _) | (refine Below.setCell ?_ (by first | exact Nat.le_refl _ | omega | (simp <;> omega)) _)))⟩
set_option maxRecDepth 100000 in
set_option maxHeartbeats 8000000 in
theorem pname3 (w : World) : Calls Try.prog 49 #[.int .i64 3] w fun e w' => e = .returned (.string ⟨#[99, 114, 117, 105, 115, 101]⟩) ∧ Below w.heap.size w w' := by
  have PI := Lib.hid (fun u => show Calls Try.prog 84 #[.int .i64 3] u fun e w' => e = .returned (.bool true) ∧ u = w' from pisph 3 u)
  go_enter Try.func49, Try.ntmps49
  go_wp2_with (go_at_call 84; refine (PI.out _).mono ?_; rintro e w1 ⟨rfl, rfl⟩)
  go_ret
  exact ⟨rfl, (by repeat (first | exact Below.refl _ _ | assumption | apply Below.drew | apply below_drewN | (refine Below.alloc ?_ (by first | exact Nat.le_refl _ | omega | (simp <;> omega)) _) | (refine Below.setCell ?_ (by first | exact Nat.le_refl _ | omega | (simp <;> omega)) _)))⟩
set_option maxRecDepth 100000 in
set_option maxHeartbeats 8000000 in
theorem pname4 (w : World) : Calls Try.prog 49 #[.int .i64 4] w fun e w' => e = .returned (.string ⟨#[100, 101, 115, 99, 101, 110, 116]⟩) ∧ Below w.heap.size w w' := by
  have PI := Lib.hid (fun u => show Calls Try.prog 84 #[.int .i64 4] u fun e w' => e = .returned (.bool true) ∧ u = w' from pisph 4 u)
  go_enter Try.func49, Try.ntmps49
  go_wp2_with (go_at_call 84; refine (PI.out _).mono ?_; rintro e w1 ⟨rfl, rfl⟩)
  go_ret
  exact ⟨rfl, (by repeat (first | exact Below.refl _ _ | assumption | apply Below.drew | apply below_drewN | (refine Below.alloc ?_ (by first | exact Nat.le_refl _ | omega | (simp <;> omega)) _) | (refine Below.setCell ?_ (by first | exact Nat.le_refl _ | omega | (simp <;> omega)) _)))⟩
set_option maxRecDepth 100000 in
set_option maxHeartbeats 8000000 in
theorem pname5 (w : World) : Calls Try.prog 49 #[.int .i64 5] w fun e w' => e = .returned (.string ⟨#[108, 97, 110, 100, 105, 110, 103]⟩) ∧ Below w.heap.size w w' := by
  have PI := Lib.hid (fun u => show Calls Try.prog 84 #[.int .i64 5] u fun e w' => e = .returned (.bool true) ∧ u = w' from pisph 5 u)
  go_enter Try.func49, Try.ntmps49
  go_wp2_with (go_at_call 84; refine (PI.out _).mono ?_; rintro e w1 ⟨rfl, rfl⟩)
  go_ret
  exact ⟨rfl, (by repeat (first | exact Below.refl _ _ | assumption | apply Below.drew | apply below_drewN | (refine Below.alloc ?_ (by first | exact Nat.le_refl _ | omega | (simp <;> omega)) _) | (refine Below.setCell ?_ (by first | exact Nat.le_refl _ | omega | (simp <;> omega)) _)))⟩
set_option maxRecDepth 100000 in
set_option maxHeartbeats 8000000 in
theorem pname9 (p : Int) (hp : p < 0 ∨ 5 < p) (w : World) : Calls Try.prog 49 #[.int .i64 p] w fun e w' => e = .returned (.string ⟨#[]⟩) ∧ Below w.heap.size w w' := by
  have PI := fun u => pisph p u
  rw [show decide (0 ≤ p ∧ p ≤ 5) = false from decide_eq_false (by omega)] at PI
  replace PI := Lib.hid PI
  clear hp
  go_enter Try.func49, Try.ntmps49
  go_wp2_with (go_at_call 84; refine (PI.out _).mono ?_; rintro e w1 ⟨rfl, rfl⟩)
  go_ret
  exact ⟨rfl, (by repeat (first | exact Below.refl _ _ | assumption | apply Below.drew | apply below_drewN | (refine Below.alloc ?_ (by first | exact Nat.le_refl _ | omega | (simp <;> omega)) _) | (refine Below.setCell ?_ (by first | exact Nat.le_refl _ | omega | (simp <;> omega)) _)))⟩
set_option maxRecDepth 100000 in
set_option maxHeartbeats 8000000 in
theorem lives50 (w : World) : Calls Try.prog 50 #[] w fun e w' => e = .returned (.bool true) ∧ Below w.heap.size w w' := by
  have ST := Lib.hid (fun b u (k : Held b (phC 3 phO) u) => pstep b 5000 0 0 u k (phO_ok (by omega) (by omega)) (by omega))
  have e1 : (phStep 3 phO 5000 0 0).p = 1 := by decide +kernel
  rw [e1] at ST
  clear e1
  have NW := Lib.hid (fun u => pnew_ok 3 (by omega) (by omega) u)
  have N1 := Lib.hid (fun u => pname1 u)
  go_enter Try.func50, Try.ntmps50
  go_wp2_with fail
  refine (NW.out _).mono ?_
  rintro e w1 ⟨b, hb, rfl, k1, hb1⟩
  have H1 := Lib.hid hb1
  have HB := Lib.hid hb
  have K1 := Lib.hid k1
  clear hb1 hb k1
  go_wp2_with fail
  refine (ST.out b _ K1.out).mono ?_
  rintro e w2 ⟨rfl, -, b2⟩
  have H2 := Lib.hid (Below.beside (w := w) H1.out b2 HB.out)
  clear b2
  go_wp2_with fail
  refine (N1.out _).mono ?_
  rintro e w3 ⟨rfl, hb3⟩
  have H3 := Lib.hid (H2.out.trans (hb3.mono H2.out.size))
  clear hb3
  go_wp2
  go_ret
  exact ⟨rfl, H3.out⟩
theorem pas_box (w : World) (c h r : Int) : ∃ V, V = ((w.alloc (.cells #[.int .i64 c, .int .i64 h, .int .i64 r] 88)).alloc (.cells #[.string ⟨#[103, 114, 111, 117, 110, 100]⟩, .string ⟨#[116, 97, 107, 101, 111, 102, 102]⟩, .string ⟨#[99, 108, 105, 109, 98]⟩, .string ⟨#[99, 114, 117, 105, 115, 101]⟩, .string ⟨#[100, 101, 115, 99, 101, 110, 116]⟩, .string ⟨#[108, 97, 110, 100, 105, 110, 103]⟩] 9)) ∧ Below w.heap.size w V ∧ V.heap.size = w.heap.size + 2 ∧ ∀ u, Below (w.heap.size + 2) V u → u.cell? ⟨w.heap.size, 0, none⟩ = some (.int .i64 c) ∧ u.cell? ⟨w.heap.size, 1, none⟩ = some (.int .i64 h) ∧ u.cell? ⟨w.heap.size, 2, none⟩ = some (.int .i64 r) ∧ u.cell? ⟨w.heap.size + 1, 0, none⟩ = some (.string ⟨#[103, 114, 111, 117, 110, 100]⟩) ∧ u.cell? ⟨w.heap.size + 1, 1, none⟩ = some (.string ⟨#[116, 97, 107, 101, 111, 102, 102]⟩) ∧ u.cell? ⟨w.heap.size + 1, 2, none⟩ = some (.string ⟨#[99, 108, 105, 109, 98]⟩) ∧ u.cell? ⟨w.heap.size + 1, 3, none⟩ = some (.string ⟨#[99, 114, 117, 105, 115, 101]⟩) ∧ u.cell? ⟨w.heap.size + 1, 4, none⟩ = some (.string ⟨#[100, 101, 115, 99, 101, 110, 116]⟩) ∧ u.cell? ⟨w.heap.size + 1, 5, none⟩ = some (.string ⟨#[108, 97, 110, 100, 105, 110, 103]⟩) :=
  ⟨_, rfl, (by repeat (first | exact Below.refl _ _ | assumption | apply Below.drew | apply below_drewN | (refine Below.alloc ?_ (by first | exact Nat.le_refl _ | omega | (simp <;> omega)) _) | (refine Below.setCell ?_ (by first | exact Nat.le_refl _ | omega | (simp <;> omega)) _))), by simp, fun u hu => ⟨(bc hu (by omega)).trans (by go_simp), (bc hu (by omega)).trans (by go_simp), (bc hu (by omega)).trans (by go_simp), (bc hu (by omega)).trans (by go_simp), (bc hu (by omega)).trans (by go_simp), (bc hu (by omega)).trans (by go_simp), (bc hu (by omega)).trans (by go_simp), (bc hu (by omega)).trans (by go_simp), (bc hu (by omega)).trans (by go_simp)⟩⟩
set_option maxRecDepth 100000 in
set_option maxHeartbeats 8000000 in
theorem asks0 (to c h r : Int) (w : World) : Calls Try.prog 10 #[.int .i64 0, .agg #[.int .i64 c, .int .i64 h, .int .i64 r], .int .i64 to] w fun e w' => e = .returned (.bool true) ∧ Below w.heap.size w w' := by
  have C1 := fun u => pasked 0 c h r u
  have C2 := fun u => rasked 0 c h r u
  have C3 := fun u => psoon 0 to u
  have C4 := fun u => rsoon 0 to u
  have C5 := Lib.hid (fun u => pname0 u)
  have C6 := Lib.hid (fun u => lives50 u)
  generalize phA 0 c h r = k at *
  generalize phQ 0 to = Q at *
  replace C1 := Lib.hid C1
  replace C2 := Lib.hid C2
  replace C3 := Lib.hid C3
  replace C4 := Lib.hid C4
  obtain ⟨V, eV, hb0, hz, hcs⟩ := pas_box w c h r
  replace hb0 := Lib.hid hb0
  replace hz := Lib.hid hz
  replace hcs := Lib.hid hcs
  replace eV := Lib.hid eV
  go_enter Try.func10, Try.ntmps10
  go_wp2_with fail
  rw [← eV.out]
  obtain ⟨k0, k1, k2, k3, k4, k5, k6, k7, k8⟩ := hcs.out _ (Below.refl _ _)
  refine region_moves (fun u => u.cell? ⟨w.heap.size, 0, none⟩ = some (.int .i64 c) ∧ u.cell? ⟨w.heap.size, 1, none⟩ = some (.int .i64 h) ∧ u.cell? ⟨w.heap.size, 2, none⟩ = some (.int .i64 r) ∧ u.cell? ⟨w.heap.size + 1, 0, none⟩ = some (.string ⟨#[103, 114, 111, 117, 110, 100]⟩) ∧ u.cell? ⟨w.heap.size + 1, 1, none⟩ = some (.string ⟨#[116, 97, 107, 101, 111, 102, 102]⟩) ∧ u.cell? ⟨w.heap.size + 1, 2, none⟩ = some (.string ⟨#[99, 108, 105, 109, 98]⟩) ∧ u.cell? ⟨w.heap.size + 1, 3, none⟩ = some (.string ⟨#[99, 114, 117, 105, 115, 101]⟩) ∧ u.cell? ⟨w.heap.size + 1, 4, none⟩ = some (.string ⟨#[100, 101, 115, 99, 101, 110, 116]⟩) ∧ u.cell? ⟨w.heap.size + 1, 5, none⟩ = some (.string ⟨#[108, 97, 110, 100, 105, 110, 103]⟩)) [] [(.free, 0), (.take, 1), (.free, 3), (.free, 4), (.take, 5), (.free, 6), (.take, 7), (.free, 8), (.take, 9), (.step, 2), (.step, 10), (.free, 11), (.free, 12), (.free, 13), (.free, 14), (.free, 16), (.free, 17), (.step, 15), (.step, 18), (.free, 19), (.free, 20), (.free, 21), (.free, 22), (.free, 24), (.step, 23), (.free, 25), (.free, 26), (.free, 27), (.step, 28), (.free, 29), (.free, 30)] _ (by kernel_rfl) (by kernel_rfl) (by kernel_rfl) (by kernel_rfl) (by decide) rfl (fun _ _ _ _ _ h => h) ?_
  simp only [List.filterMap_cons, List.filterMap_nil, List.getElem?_toArray, List.getElem?_cons_zero, List.getElem?_cons_succ, Option.map_some]
  iterate 1
    first
      | (refine mv_free ?_ (Or.inl ⟨by rfl, ?_⟩) (⟨k0, k1, k2, k3, k4, k5, k6, k7, k8⟩) ?_
         rotate_left 1
         · intro u
           go_simp
           try with_reducible rfl
         simp only [Act.put, List.setIfInBounds_toArray, List.set_cons_zero, List.set_cons_succ])
      | (refine mv_free _ (Or.inr ⟨by rfl, rfl⟩) (⟨k0, k1, k2, k3, k4, k5, k6, k7, k8⟩) ?_
         simp only [Act.put, List.setIfInBounds_toArray, List.set_cons_zero, List.set_cons_succ])
  iterate 1
    first
      | (refine mv_take ?_ (Or.inl ⟨by rfl, ?_⟩) (⟨k0, k1, k2, k3, k4, k5, k6, k7, k8⟩) ?_
         rotate_left 1
         · intro u hu
           (try dsimp only at hu)
           go_simp
           try with_reducible rfl
         simp only [Act.put, List.setIfInBounds_toArray, List.set_cons_zero, List.set_cons_succ])
      | (refine mv_take _ (Or.inr ⟨by rfl, rfl⟩) (⟨k0, k1, k2, k3, k4, k5, k6, k7, k8⟩) ?_
         simp only [Act.put, List.setIfInBounds_toArray, List.set_cons_zero, List.set_cons_succ])
  iterate 2
    first
      | (refine mv_free ?_ (Or.inl ⟨by rfl, ?_⟩) (⟨k0, k1, k2, k3, k4, k5, k6, k7, k8⟩) ?_
         rotate_left 1
         · intro u
           go_simp
           try with_reducible rfl
         simp only [Act.put, List.setIfInBounds_toArray, List.set_cons_zero, List.set_cons_succ])
      | (refine mv_free _ (Or.inr ⟨by rfl, rfl⟩) (⟨k0, k1, k2, k3, k4, k5, k6, k7, k8⟩) ?_
         simp only [Act.put, List.setIfInBounds_toArray, List.set_cons_zero, List.set_cons_succ])
  iterate 1
    first
      | (refine mv_take ?_ (Or.inl ⟨by rfl, ?_⟩) (⟨k0, k1, k2, k3, k4, k5, k6, k7, k8⟩) ?_
         rotate_left 1
         · intro u hu
           (try dsimp only at hu)
           go_simp
           try with_reducible rfl
         simp only [Act.put, List.setIfInBounds_toArray, List.set_cons_zero, List.set_cons_succ])
      | (refine mv_take _ (Or.inr ⟨by rfl, rfl⟩) (⟨k0, k1, k2, k3, k4, k5, k6, k7, k8⟩) ?_
         simp only [Act.put, List.setIfInBounds_toArray, List.set_cons_zero, List.set_cons_succ])
  iterate 1
    first
      | (refine mv_free ?_ (Or.inl ⟨by rfl, ?_⟩) (⟨k0, k1, k2, k3, k4, k5, k6, k7, k8⟩) ?_
         rotate_left 1
         · intro u
           go_simp
           try with_reducible rfl
         simp only [Act.put, List.setIfInBounds_toArray, List.set_cons_zero, List.set_cons_succ])
      | (refine mv_free _ (Or.inr ⟨by rfl, rfl⟩) (⟨k0, k1, k2, k3, k4, k5, k6, k7, k8⟩) ?_
         simp only [Act.put, List.setIfInBounds_toArray, List.set_cons_zero, List.set_cons_succ])
  iterate 1
    first
      | (refine mv_take ?_ (Or.inl ⟨by rfl, ?_⟩) (⟨k0, k1, k2, k3, k4, k5, k6, k7, k8⟩) ?_
         rotate_left 1
         · intro u hu
           (try dsimp only at hu)
           go_simp
           try with_reducible rfl
         simp only [Act.put, List.setIfInBounds_toArray, List.set_cons_zero, List.set_cons_succ])
      | (refine mv_take _ (Or.inr ⟨by rfl, rfl⟩) (⟨k0, k1, k2, k3, k4, k5, k6, k7, k8⟩) ?_
         simp only [Act.put, List.setIfInBounds_toArray, List.set_cons_zero, List.set_cons_succ])
  iterate 1
    first
      | (refine mv_free ?_ (Or.inl ⟨by rfl, ?_⟩) (⟨k0, k1, k2, k3, k4, k5, k6, k7, k8⟩) ?_
         rotate_left 1
         · intro u
           go_simp
           try with_reducible rfl
         simp only [Act.put, List.setIfInBounds_toArray, List.set_cons_zero, List.set_cons_succ])
      | (refine mv_free _ (Or.inr ⟨by rfl, rfl⟩) (⟨k0, k1, k2, k3, k4, k5, k6, k7, k8⟩) ?_
         simp only [Act.put, List.setIfInBounds_toArray, List.set_cons_zero, List.set_cons_succ])
  iterate 1
    first
      | (refine mv_take ?_ (Or.inl ⟨by rfl, ?_⟩) (⟨k0, k1, k2, k3, k4, k5, k6, k7, k8⟩) ?_
         rotate_left 1
         · intro u hu
           (try dsimp only at hu)
           go_simp
           try with_reducible rfl
         simp only [Act.put, List.setIfInBounds_toArray, List.set_cons_zero, List.set_cons_succ])
      | (refine mv_take _ (Or.inr ⟨by rfl, rfl⟩) (⟨k0, k1, k2, k3, k4, k5, k6, k7, k8⟩) ?_
         simp only [Act.put, List.setIfInBounds_toArray, List.set_cons_zero, List.set_cons_succ])
  refine mv_step (fun K hK => ?_)
  go_simp
  refine (C1.out _).mono ?_
  rintro e w1 ⟨rfl, hb1⟩
  have hb1 := ((Below.refl (w.heap.size + 2) V).drew).trans (hb1.mono (by have := hz.out; show _ ≤ V.heap.size; omega))
  obtain ⟨k0, k1, k2, k3, k4, k5, k6, k7, k8⟩ := hcs.out _ hb1
  go_wp2_with fail
  refine hK.out _ _ _ (fun u hu => hu) (⟨k0, k1, k2, k3, k4, k5, k6, k7, k8⟩) ?_
  clear hK K
  refine mv_step (fun K hK => ?_)
  go_simp
  refine (C2.out _).mono ?_
  rintro e w' ⟨rfl, rfl⟩
  go_wp2_with fail
  refine hK.out _ _ _ (fun u hu => hu) (⟨k0, k1, k2, k3, k4, k5, k6, k7, k8⟩) ?_
  clear hK K
  iterate 6
    first
      | (refine mv_free ?_ (Or.inl ⟨by rfl, ?_⟩) (⟨k0, k1, k2, k3, k4, k5, k6, k7, k8⟩) ?_
         rotate_left 1
         · intro u
           go_simp
           try with_reducible rfl
         simp only [Act.put, List.setIfInBounds_toArray, List.set_cons_zero, List.set_cons_succ])
      | (refine mv_free _ (Or.inr ⟨by rfl, rfl⟩) (⟨k0, k1, k2, k3, k4, k5, k6, k7, k8⟩) ?_
         simp only [Act.put, List.setIfInBounds_toArray, List.set_cons_zero, List.set_cons_succ])
  refine mv_step (fun K hK => ?_)
  go_simp
  refine (C3.out _).mono ?_
  rintro e w' ⟨rfl, rfl⟩
  go_wp2_with fail
  refine hK.out _ _ _ (fun u hu => hu) (⟨k0, k1, k2, k3, k4, k5, k6, k7, k8⟩) ?_
  clear hK K
  refine mv_step (fun K hK => ?_)
  go_simp
  refine (C4.out _).mono ?_
  rintro e w' ⟨rfl, rfl⟩
  go_wp2_with fail
  refine hK.out _ _ _ (fun u hu => hu) (⟨k0, k1, k2, k3, k4, k5, k6, k7, k8⟩) ?_
  clear hK K
  iterate 5
    first
      | (refine mv_free ?_ (Or.inl ⟨by rfl, ?_⟩) (⟨k0, k1, k2, k3, k4, k5, k6, k7, k8⟩) ?_
         rotate_left 1
         · intro u
           go_simp
           try with_reducible rfl
         simp only [Act.put, List.setIfInBounds_toArray, List.set_cons_zero, List.set_cons_succ])
      | (refine mv_free _ (Or.inr ⟨by rfl, rfl⟩) (⟨k0, k1, k2, k3, k4, k5, k6, k7, k8⟩) ?_
         simp only [Act.put, List.setIfInBounds_toArray, List.set_cons_zero, List.set_cons_succ])
  refine mv_step (fun K hK => ?_)
  go_simp
  refine (C5.out _).mono ?_
  rintro e w5 ⟨rfl, hb5⟩
  have hb5 := (hb1).trans (hb5.mono (by have := hb1.size; have := hz.out; show _ ≤ w1.heap.size; omega))
  clear hb1
  obtain ⟨k0, k1, k2, k3, k4, k5, k6, k7, k8⟩ := hcs.out _ hb5
  go_wp2_with fail
  refine hK.out _ _ _ (fun u hu => hu) (⟨k0, k1, k2, k3, k4, k5, k6, k7, k8⟩) ?_
  clear hK K
  iterate 3
    first
      | (refine mv_free ?_ (Or.inl ⟨by rfl, ?_⟩) (⟨k0, k1, k2, k3, k4, k5, k6, k7, k8⟩) ?_
         rotate_left 1
         · intro u
           go_simp
           try with_reducible rfl
         simp only [Act.put, List.setIfInBounds_toArray, List.set_cons_zero, List.set_cons_succ])
      | (refine mv_free _ (Or.inr ⟨by rfl, rfl⟩) (⟨k0, k1, k2, k3, k4, k5, k6, k7, k8⟩) ?_
         simp only [Act.put, List.setIfInBounds_toArray, List.set_cons_zero, List.set_cons_succ])
  refine mv_step (fun K hK => ?_)
  go_simp
  refine (C6.out _).mono ?_
  rintro e w6 ⟨rfl, hb6⟩
  have hb6 := (hb5).trans (hb6.mono (by have := hb5.size; have := hz.out; show _ ≤ w5.heap.size; omega))
  clear hb5
  obtain ⟨k0, k1, k2, k3, k4, k5, k6, k7, k8⟩ := hcs.out _ hb6
  go_wp2_with fail
  refine hK.out _ _ _ (fun u hu => hu) (⟨k0, k1, k2, k3, k4, k5, k6, k7, k8⟩) ?_
  clear hK K
  iterate 2
    first
      | (refine mv_free ?_ (Or.inl ⟨by rfl, ?_⟩) (⟨k0, k1, k2, k3, k4, k5, k6, k7, k8⟩) ?_
         rotate_left 1
         · intro u
           go_simp
           try with_reducible rfl
         simp only [Act.put, List.setIfInBounds_toArray, List.set_cons_zero, List.set_cons_succ])
      | (refine mv_free _ (Or.inr ⟨by rfl, rfl⟩) (⟨k0, k1, k2, k3, k4, k5, k6, k7, k8⟩) ?_
         simp only [Act.put, List.setIfInBounds_toArray, List.set_cons_zero, List.set_cons_succ])
  refine mv_done ?_
  go_wp2
  go_ret
  exact ⟨rfl, hb0.out.trans (hb6.mono (by omega))⟩
set_option maxRecDepth 100000 in
set_option maxHeartbeats 8000000 in
theorem asks1 (to c h r : Int) (w : World) : Calls Try.prog 10 #[.int .i64 1, .agg #[.int .i64 c, .int .i64 h, .int .i64 r], .int .i64 to] w fun e w' => e = .returned (.bool true) ∧ Below w.heap.size w w' := by
  have C1 := fun u => pasked 1 c h r u
  have C2 := fun u => rasked 1 c h r u
  have C3 := fun u => psoon 1 to u
  have C4 := fun u => rsoon 1 to u
  have C5 := Lib.hid (fun u => pname1 u)
  have C6 := Lib.hid (fun u => lives50 u)
  generalize phA 1 c h r = k at *
  generalize phQ 1 to = Q at *
  replace C1 := Lib.hid C1
  replace C2 := Lib.hid C2
  replace C3 := Lib.hid C3
  replace C4 := Lib.hid C4
  obtain ⟨V, eV, hb0, hz, hcs⟩ := pas_box w c h r
  replace hb0 := Lib.hid hb0
  replace hz := Lib.hid hz
  replace hcs := Lib.hid hcs
  replace eV := Lib.hid eV
  go_enter Try.func10, Try.ntmps10
  go_wp2_with fail
  rw [← eV.out]
  obtain ⟨k0, k1, k2, k3, k4, k5, k6, k7, k8⟩ := hcs.out _ (Below.refl _ _)
  refine region_moves (fun u => u.cell? ⟨w.heap.size, 0, none⟩ = some (.int .i64 c) ∧ u.cell? ⟨w.heap.size, 1, none⟩ = some (.int .i64 h) ∧ u.cell? ⟨w.heap.size, 2, none⟩ = some (.int .i64 r) ∧ u.cell? ⟨w.heap.size + 1, 0, none⟩ = some (.string ⟨#[103, 114, 111, 117, 110, 100]⟩) ∧ u.cell? ⟨w.heap.size + 1, 1, none⟩ = some (.string ⟨#[116, 97, 107, 101, 111, 102, 102]⟩) ∧ u.cell? ⟨w.heap.size + 1, 2, none⟩ = some (.string ⟨#[99, 108, 105, 109, 98]⟩) ∧ u.cell? ⟨w.heap.size + 1, 3, none⟩ = some (.string ⟨#[99, 114, 117, 105, 115, 101]⟩) ∧ u.cell? ⟨w.heap.size + 1, 4, none⟩ = some (.string ⟨#[100, 101, 115, 99, 101, 110, 116]⟩) ∧ u.cell? ⟨w.heap.size + 1, 5, none⟩ = some (.string ⟨#[108, 97, 110, 100, 105, 110, 103]⟩)) [] [(.free, 0), (.take, 1), (.free, 3), (.free, 4), (.take, 5), (.free, 6), (.take, 7), (.free, 8), (.take, 9), (.step, 2), (.step, 10), (.free, 11), (.free, 12), (.free, 13), (.free, 14), (.free, 16), (.free, 17), (.step, 15), (.step, 18), (.free, 19), (.free, 20), (.free, 21), (.free, 22), (.free, 24), (.step, 23), (.free, 25), (.free, 26), (.free, 27), (.step, 28), (.free, 29), (.free, 30)] _ (by kernel_rfl) (by kernel_rfl) (by kernel_rfl) (by kernel_rfl) (by decide) rfl (fun _ _ _ _ _ h => h) ?_
  simp only [List.filterMap_cons, List.filterMap_nil, List.getElem?_toArray, List.getElem?_cons_zero, List.getElem?_cons_succ, Option.map_some]
  iterate 1
    first
      | (refine mv_free ?_ (Or.inl ⟨by rfl, ?_⟩) (⟨k0, k1, k2, k3, k4, k5, k6, k7, k8⟩) ?_
         rotate_left 1
         · intro u
           go_simp
           try with_reducible rfl
         simp only [Act.put, List.setIfInBounds_toArray, List.set_cons_zero, List.set_cons_succ])
      | (refine mv_free _ (Or.inr ⟨by rfl, rfl⟩) (⟨k0, k1, k2, k3, k4, k5, k6, k7, k8⟩) ?_
         simp only [Act.put, List.setIfInBounds_toArray, List.set_cons_zero, List.set_cons_succ])
  iterate 1
    first
      | (refine mv_take ?_ (Or.inl ⟨by rfl, ?_⟩) (⟨k0, k1, k2, k3, k4, k5, k6, k7, k8⟩) ?_
         rotate_left 1
         · intro u hu
           (try dsimp only at hu)
           go_simp
           try with_reducible rfl
         simp only [Act.put, List.setIfInBounds_toArray, List.set_cons_zero, List.set_cons_succ])
      | (refine mv_take _ (Or.inr ⟨by rfl, rfl⟩) (⟨k0, k1, k2, k3, k4, k5, k6, k7, k8⟩) ?_
         simp only [Act.put, List.setIfInBounds_toArray, List.set_cons_zero, List.set_cons_succ])
  iterate 2
    first
      | (refine mv_free ?_ (Or.inl ⟨by rfl, ?_⟩) (⟨k0, k1, k2, k3, k4, k5, k6, k7, k8⟩) ?_
         rotate_left 1
         · intro u
           go_simp
           try with_reducible rfl
         simp only [Act.put, List.setIfInBounds_toArray, List.set_cons_zero, List.set_cons_succ])
      | (refine mv_free _ (Or.inr ⟨by rfl, rfl⟩) (⟨k0, k1, k2, k3, k4, k5, k6, k7, k8⟩) ?_
         simp only [Act.put, List.setIfInBounds_toArray, List.set_cons_zero, List.set_cons_succ])
  iterate 1
    first
      | (refine mv_take ?_ (Or.inl ⟨by rfl, ?_⟩) (⟨k0, k1, k2, k3, k4, k5, k6, k7, k8⟩) ?_
         rotate_left 1
         · intro u hu
           (try dsimp only at hu)
           go_simp
           try with_reducible rfl
         simp only [Act.put, List.setIfInBounds_toArray, List.set_cons_zero, List.set_cons_succ])
      | (refine mv_take _ (Or.inr ⟨by rfl, rfl⟩) (⟨k0, k1, k2, k3, k4, k5, k6, k7, k8⟩) ?_
         simp only [Act.put, List.setIfInBounds_toArray, List.set_cons_zero, List.set_cons_succ])
  iterate 1
    first
      | (refine mv_free ?_ (Or.inl ⟨by rfl, ?_⟩) (⟨k0, k1, k2, k3, k4, k5, k6, k7, k8⟩) ?_
         rotate_left 1
         · intro u
           go_simp
           try with_reducible rfl
         simp only [Act.put, List.setIfInBounds_toArray, List.set_cons_zero, List.set_cons_succ])
      | (refine mv_free _ (Or.inr ⟨by rfl, rfl⟩) (⟨k0, k1, k2, k3, k4, k5, k6, k7, k8⟩) ?_
         simp only [Act.put, List.setIfInBounds_toArray, List.set_cons_zero, List.set_cons_succ])
  iterate 1
    first
      | (refine mv_take ?_ (Or.inl ⟨by rfl, ?_⟩) (⟨k0, k1, k2, k3, k4, k5, k6, k7, k8⟩) ?_
         rotate_left 1
         · intro u hu
           (try dsimp only at hu)
           go_simp
           try with_reducible rfl
         simp only [Act.put, List.setIfInBounds_toArray, List.set_cons_zero, List.set_cons_succ])
      | (refine mv_take _ (Or.inr ⟨by rfl, rfl⟩) (⟨k0, k1, k2, k3, k4, k5, k6, k7, k8⟩) ?_
         simp only [Act.put, List.setIfInBounds_toArray, List.set_cons_zero, List.set_cons_succ])
  iterate 1
    first
      | (refine mv_free ?_ (Or.inl ⟨by rfl, ?_⟩) (⟨k0, k1, k2, k3, k4, k5, k6, k7, k8⟩) ?_
         rotate_left 1
         · intro u
           go_simp
           try with_reducible rfl
         simp only [Act.put, List.setIfInBounds_toArray, List.set_cons_zero, List.set_cons_succ])
      | (refine mv_free _ (Or.inr ⟨by rfl, rfl⟩) (⟨k0, k1, k2, k3, k4, k5, k6, k7, k8⟩) ?_
         simp only [Act.put, List.setIfInBounds_toArray, List.set_cons_zero, List.set_cons_succ])
  iterate 1
    first
      | (refine mv_take ?_ (Or.inl ⟨by rfl, ?_⟩) (⟨k0, k1, k2, k3, k4, k5, k6, k7, k8⟩) ?_
         rotate_left 1
         · intro u hu
           (try dsimp only at hu)
           go_simp
           try with_reducible rfl
         simp only [Act.put, List.setIfInBounds_toArray, List.set_cons_zero, List.set_cons_succ])
      | (refine mv_take _ (Or.inr ⟨by rfl, rfl⟩) (⟨k0, k1, k2, k3, k4, k5, k6, k7, k8⟩) ?_
         simp only [Act.put, List.setIfInBounds_toArray, List.set_cons_zero, List.set_cons_succ])
  refine mv_step (fun K hK => ?_)
  go_simp
  refine (C1.out _).mono ?_
  rintro e w1 ⟨rfl, hb1⟩
  have hb1 := ((Below.refl (w.heap.size + 2) V).drew).trans (hb1.mono (by have := hz.out; show _ ≤ V.heap.size; omega))
  obtain ⟨k0, k1, k2, k3, k4, k5, k6, k7, k8⟩ := hcs.out _ hb1
  go_wp2_with fail
  refine hK.out _ _ _ (fun u hu => hu) (⟨k0, k1, k2, k3, k4, k5, k6, k7, k8⟩) ?_
  clear hK K
  refine mv_step (fun K hK => ?_)
  go_simp
  refine (C2.out _).mono ?_
  rintro e w' ⟨rfl, rfl⟩
  go_wp2_with fail
  refine hK.out _ _ _ (fun u hu => hu) (⟨k0, k1, k2, k3, k4, k5, k6, k7, k8⟩) ?_
  clear hK K
  iterate 6
    first
      | (refine mv_free ?_ (Or.inl ⟨by rfl, ?_⟩) (⟨k0, k1, k2, k3, k4, k5, k6, k7, k8⟩) ?_
         rotate_left 1
         · intro u
           go_simp
           try with_reducible rfl
         simp only [Act.put, List.setIfInBounds_toArray, List.set_cons_zero, List.set_cons_succ])
      | (refine mv_free _ (Or.inr ⟨by rfl, rfl⟩) (⟨k0, k1, k2, k3, k4, k5, k6, k7, k8⟩) ?_
         simp only [Act.put, List.setIfInBounds_toArray, List.set_cons_zero, List.set_cons_succ])
  refine mv_step (fun K hK => ?_)
  go_simp
  refine (C3.out _).mono ?_
  rintro e w' ⟨rfl, rfl⟩
  go_wp2_with fail
  refine hK.out _ _ _ (fun u hu => hu) (⟨k0, k1, k2, k3, k4, k5, k6, k7, k8⟩) ?_
  clear hK K
  refine mv_step (fun K hK => ?_)
  go_simp
  refine (C4.out _).mono ?_
  rintro e w' ⟨rfl, rfl⟩
  go_wp2_with fail
  refine hK.out _ _ _ (fun u hu => hu) (⟨k0, k1, k2, k3, k4, k5, k6, k7, k8⟩) ?_
  clear hK K
  iterate 5
    first
      | (refine mv_free ?_ (Or.inl ⟨by rfl, ?_⟩) (⟨k0, k1, k2, k3, k4, k5, k6, k7, k8⟩) ?_
         rotate_left 1
         · intro u
           go_simp
           try with_reducible rfl
         simp only [Act.put, List.setIfInBounds_toArray, List.set_cons_zero, List.set_cons_succ])
      | (refine mv_free _ (Or.inr ⟨by rfl, rfl⟩) (⟨k0, k1, k2, k3, k4, k5, k6, k7, k8⟩) ?_
         simp only [Act.put, List.setIfInBounds_toArray, List.set_cons_zero, List.set_cons_succ])
  refine mv_step (fun K hK => ?_)
  go_simp
  refine (C5.out _).mono ?_
  rintro e w5 ⟨rfl, hb5⟩
  have hb5 := (hb1).trans (hb5.mono (by have := hb1.size; have := hz.out; show _ ≤ w1.heap.size; omega))
  clear hb1
  obtain ⟨k0, k1, k2, k3, k4, k5, k6, k7, k8⟩ := hcs.out _ hb5
  go_wp2_with fail
  refine hK.out _ _ _ (fun u hu => hu) (⟨k0, k1, k2, k3, k4, k5, k6, k7, k8⟩) ?_
  clear hK K
  iterate 3
    first
      | (refine mv_free ?_ (Or.inl ⟨by rfl, ?_⟩) (⟨k0, k1, k2, k3, k4, k5, k6, k7, k8⟩) ?_
         rotate_left 1
         · intro u
           go_simp
           try with_reducible rfl
         simp only [Act.put, List.setIfInBounds_toArray, List.set_cons_zero, List.set_cons_succ])
      | (refine mv_free _ (Or.inr ⟨by rfl, rfl⟩) (⟨k0, k1, k2, k3, k4, k5, k6, k7, k8⟩) ?_
         simp only [Act.put, List.setIfInBounds_toArray, List.set_cons_zero, List.set_cons_succ])
  refine mv_step (fun K hK => ?_)
  go_simp
  refine (C6.out _).mono ?_
  rintro e w6 ⟨rfl, hb6⟩
  have hb6 := (hb5).trans (hb6.mono (by have := hb5.size; have := hz.out; show _ ≤ w5.heap.size; omega))
  clear hb5
  obtain ⟨k0, k1, k2, k3, k4, k5, k6, k7, k8⟩ := hcs.out _ hb6
  go_wp2_with fail
  refine hK.out _ _ _ (fun u hu => hu) (⟨k0, k1, k2, k3, k4, k5, k6, k7, k8⟩) ?_
  clear hK K
  iterate 2
    first
      | (refine mv_free ?_ (Or.inl ⟨by rfl, ?_⟩) (⟨k0, k1, k2, k3, k4, k5, k6, k7, k8⟩) ?_
         rotate_left 1
         · intro u
           go_simp
           try with_reducible rfl
         simp only [Act.put, List.setIfInBounds_toArray, List.set_cons_zero, List.set_cons_succ])
      | (refine mv_free _ (Or.inr ⟨by rfl, rfl⟩) (⟨k0, k1, k2, k3, k4, k5, k6, k7, k8⟩) ?_
         simp only [Act.put, List.setIfInBounds_toArray, List.set_cons_zero, List.set_cons_succ])
  refine mv_done ?_
  go_wp2
  go_ret
  exact ⟨rfl, hb0.out.trans (hb6.mono (by omega))⟩
set_option maxRecDepth 100000 in
set_option maxHeartbeats 8000000 in
theorem asks2 (to c h r : Int) (w : World) : Calls Try.prog 10 #[.int .i64 2, .agg #[.int .i64 c, .int .i64 h, .int .i64 r], .int .i64 to] w fun e w' => e = .returned (.bool true) ∧ Below w.heap.size w w' := by
  have C1 := fun u => pasked 2 c h r u
  have C2 := fun u => rasked 2 c h r u
  have C3 := fun u => psoon 2 to u
  have C4 := fun u => rsoon 2 to u
  have C5 := Lib.hid (fun u => pname2 u)
  have C6 := Lib.hid (fun u => lives50 u)
  generalize phA 2 c h r = k at *
  generalize phQ 2 to = Q at *
  replace C1 := Lib.hid C1
  replace C2 := Lib.hid C2
  replace C3 := Lib.hid C3
  replace C4 := Lib.hid C4
  obtain ⟨V, eV, hb0, hz, hcs⟩ := pas_box w c h r
  replace hb0 := Lib.hid hb0
  replace hz := Lib.hid hz
  replace hcs := Lib.hid hcs
  replace eV := Lib.hid eV
  go_enter Try.func10, Try.ntmps10
  go_wp2_with fail
  rw [← eV.out]
  obtain ⟨k0, k1, k2, k3, k4, k5, k6, k7, k8⟩ := hcs.out _ (Below.refl _ _)
  refine region_moves (fun u => u.cell? ⟨w.heap.size, 0, none⟩ = some (.int .i64 c) ∧ u.cell? ⟨w.heap.size, 1, none⟩ = some (.int .i64 h) ∧ u.cell? ⟨w.heap.size, 2, none⟩ = some (.int .i64 r) ∧ u.cell? ⟨w.heap.size + 1, 0, none⟩ = some (.string ⟨#[103, 114, 111, 117, 110, 100]⟩) ∧ u.cell? ⟨w.heap.size + 1, 1, none⟩ = some (.string ⟨#[116, 97, 107, 101, 111, 102, 102]⟩) ∧ u.cell? ⟨w.heap.size + 1, 2, none⟩ = some (.string ⟨#[99, 108, 105, 109, 98]⟩) ∧ u.cell? ⟨w.heap.size + 1, 3, none⟩ = some (.string ⟨#[99, 114, 117, 105, 115, 101]⟩) ∧ u.cell? ⟨w.heap.size + 1, 4, none⟩ = some (.string ⟨#[100, 101, 115, 99, 101, 110, 116]⟩) ∧ u.cell? ⟨w.heap.size + 1, 5, none⟩ = some (.string ⟨#[108, 97, 110, 100, 105, 110, 103]⟩)) [] [(.free, 0), (.take, 1), (.free, 3), (.free, 4), (.take, 5), (.free, 6), (.take, 7), (.free, 8), (.take, 9), (.step, 2), (.step, 10), (.free, 11), (.free, 12), (.free, 13), (.free, 14), (.free, 16), (.free, 17), (.step, 15), (.step, 18), (.free, 19), (.free, 20), (.free, 21), (.free, 22), (.free, 24), (.step, 23), (.free, 25), (.free, 26), (.free, 27), (.step, 28), (.free, 29), (.free, 30)] _ (by kernel_rfl) (by kernel_rfl) (by kernel_rfl) (by kernel_rfl) (by decide) rfl (fun _ _ _ _ _ h => h) ?_
  simp only [List.filterMap_cons, List.filterMap_nil, List.getElem?_toArray, List.getElem?_cons_zero, List.getElem?_cons_succ, Option.map_some]
  iterate 1
    first
      | (refine mv_free ?_ (Or.inl ⟨by rfl, ?_⟩) (⟨k0, k1, k2, k3, k4, k5, k6, k7, k8⟩) ?_
         rotate_left 1
         · intro u
           go_simp
           try with_reducible rfl
         simp only [Act.put, List.setIfInBounds_toArray, List.set_cons_zero, List.set_cons_succ])
      | (refine mv_free _ (Or.inr ⟨by rfl, rfl⟩) (⟨k0, k1, k2, k3, k4, k5, k6, k7, k8⟩) ?_
         simp only [Act.put, List.setIfInBounds_toArray, List.set_cons_zero, List.set_cons_succ])
  iterate 1
    first
      | (refine mv_take ?_ (Or.inl ⟨by rfl, ?_⟩) (⟨k0, k1, k2, k3, k4, k5, k6, k7, k8⟩) ?_
         rotate_left 1
         · intro u hu
           (try dsimp only at hu)
           go_simp
           try with_reducible rfl
         simp only [Act.put, List.setIfInBounds_toArray, List.set_cons_zero, List.set_cons_succ])
      | (refine mv_take _ (Or.inr ⟨by rfl, rfl⟩) (⟨k0, k1, k2, k3, k4, k5, k6, k7, k8⟩) ?_
         simp only [Act.put, List.setIfInBounds_toArray, List.set_cons_zero, List.set_cons_succ])
  iterate 2
    first
      | (refine mv_free ?_ (Or.inl ⟨by rfl, ?_⟩) (⟨k0, k1, k2, k3, k4, k5, k6, k7, k8⟩) ?_
         rotate_left 1
         · intro u
           go_simp
           try with_reducible rfl
         simp only [Act.put, List.setIfInBounds_toArray, List.set_cons_zero, List.set_cons_succ])
      | (refine mv_free _ (Or.inr ⟨by rfl, rfl⟩) (⟨k0, k1, k2, k3, k4, k5, k6, k7, k8⟩) ?_
         simp only [Act.put, List.setIfInBounds_toArray, List.set_cons_zero, List.set_cons_succ])
  iterate 1
    first
      | (refine mv_take ?_ (Or.inl ⟨by rfl, ?_⟩) (⟨k0, k1, k2, k3, k4, k5, k6, k7, k8⟩) ?_
         rotate_left 1
         · intro u hu
           (try dsimp only at hu)
           go_simp
           try with_reducible rfl
         simp only [Act.put, List.setIfInBounds_toArray, List.set_cons_zero, List.set_cons_succ])
      | (refine mv_take _ (Or.inr ⟨by rfl, rfl⟩) (⟨k0, k1, k2, k3, k4, k5, k6, k7, k8⟩) ?_
         simp only [Act.put, List.setIfInBounds_toArray, List.set_cons_zero, List.set_cons_succ])
  iterate 1
    first
      | (refine mv_free ?_ (Or.inl ⟨by rfl, ?_⟩) (⟨k0, k1, k2, k3, k4, k5, k6, k7, k8⟩) ?_
         rotate_left 1
         · intro u
           go_simp
           try with_reducible rfl
         simp only [Act.put, List.setIfInBounds_toArray, List.set_cons_zero, List.set_cons_succ])
      | (refine mv_free _ (Or.inr ⟨by rfl, rfl⟩) (⟨k0, k1, k2, k3, k4, k5, k6, k7, k8⟩) ?_
         simp only [Act.put, List.setIfInBounds_toArray, List.set_cons_zero, List.set_cons_succ])
  iterate 1
    first
      | (refine mv_take ?_ (Or.inl ⟨by rfl, ?_⟩) (⟨k0, k1, k2, k3, k4, k5, k6, k7, k8⟩) ?_
         rotate_left 1
         · intro u hu
           (try dsimp only at hu)
           go_simp
           try with_reducible rfl
         simp only [Act.put, List.setIfInBounds_toArray, List.set_cons_zero, List.set_cons_succ])
      | (refine mv_take _ (Or.inr ⟨by rfl, rfl⟩) (⟨k0, k1, k2, k3, k4, k5, k6, k7, k8⟩) ?_
         simp only [Act.put, List.setIfInBounds_toArray, List.set_cons_zero, List.set_cons_succ])
  iterate 1
    first
      | (refine mv_free ?_ (Or.inl ⟨by rfl, ?_⟩) (⟨k0, k1, k2, k3, k4, k5, k6, k7, k8⟩) ?_
         rotate_left 1
         · intro u
           go_simp
           try with_reducible rfl
         simp only [Act.put, List.setIfInBounds_toArray, List.set_cons_zero, List.set_cons_succ])
      | (refine mv_free _ (Or.inr ⟨by rfl, rfl⟩) (⟨k0, k1, k2, k3, k4, k5, k6, k7, k8⟩) ?_
         simp only [Act.put, List.setIfInBounds_toArray, List.set_cons_zero, List.set_cons_succ])
  iterate 1
    first
      | (refine mv_take ?_ (Or.inl ⟨by rfl, ?_⟩) (⟨k0, k1, k2, k3, k4, k5, k6, k7, k8⟩) ?_
         rotate_left 1
         · intro u hu
           (try dsimp only at hu)
           go_simp
           try with_reducible rfl
         simp only [Act.put, List.setIfInBounds_toArray, List.set_cons_zero, List.set_cons_succ])
      | (refine mv_take _ (Or.inr ⟨by rfl, rfl⟩) (⟨k0, k1, k2, k3, k4, k5, k6, k7, k8⟩) ?_
         simp only [Act.put, List.setIfInBounds_toArray, List.set_cons_zero, List.set_cons_succ])
  refine mv_step (fun K hK => ?_)
  go_simp
  refine (C1.out _).mono ?_
  rintro e w1 ⟨rfl, hb1⟩
  have hb1 := ((Below.refl (w.heap.size + 2) V).drew).trans (hb1.mono (by have := hz.out; show _ ≤ V.heap.size; omega))
  obtain ⟨k0, k1, k2, k3, k4, k5, k6, k7, k8⟩ := hcs.out _ hb1
  go_wp2_with fail
  refine hK.out _ _ _ (fun u hu => hu) (⟨k0, k1, k2, k3, k4, k5, k6, k7, k8⟩) ?_
  clear hK K
  refine mv_step (fun K hK => ?_)
  go_simp
  refine (C2.out _).mono ?_
  rintro e w' ⟨rfl, rfl⟩
  go_wp2_with fail
  refine hK.out _ _ _ (fun u hu => hu) (⟨k0, k1, k2, k3, k4, k5, k6, k7, k8⟩) ?_
  clear hK K
  iterate 6
    first
      | (refine mv_free ?_ (Or.inl ⟨by rfl, ?_⟩) (⟨k0, k1, k2, k3, k4, k5, k6, k7, k8⟩) ?_
         rotate_left 1
         · intro u
           go_simp
           try with_reducible rfl
         simp only [Act.put, List.setIfInBounds_toArray, List.set_cons_zero, List.set_cons_succ])
      | (refine mv_free _ (Or.inr ⟨by rfl, rfl⟩) (⟨k0, k1, k2, k3, k4, k5, k6, k7, k8⟩) ?_
         simp only [Act.put, List.setIfInBounds_toArray, List.set_cons_zero, List.set_cons_succ])
  refine mv_step (fun K hK => ?_)
  go_simp
  refine (C3.out _).mono ?_
  rintro e w' ⟨rfl, rfl⟩
  go_wp2_with fail
  refine hK.out _ _ _ (fun u hu => hu) (⟨k0, k1, k2, k3, k4, k5, k6, k7, k8⟩) ?_
  clear hK K
  refine mv_step (fun K hK => ?_)
  go_simp
  refine (C4.out _).mono ?_
  rintro e w' ⟨rfl, rfl⟩
  go_wp2_with fail
  refine hK.out _ _ _ (fun u hu => hu) (⟨k0, k1, k2, k3, k4, k5, k6, k7, k8⟩) ?_
  clear hK K
  iterate 5
    first
      | (refine mv_free ?_ (Or.inl ⟨by rfl, ?_⟩) (⟨k0, k1, k2, k3, k4, k5, k6, k7, k8⟩) ?_
         rotate_left 1
         · intro u
           go_simp
           try with_reducible rfl
         simp only [Act.put, List.setIfInBounds_toArray, List.set_cons_zero, List.set_cons_succ])
      | (refine mv_free _ (Or.inr ⟨by rfl, rfl⟩) (⟨k0, k1, k2, k3, k4, k5, k6, k7, k8⟩) ?_
         simp only [Act.put, List.setIfInBounds_toArray, List.set_cons_zero, List.set_cons_succ])
  refine mv_step (fun K hK => ?_)
  go_simp
  refine (C5.out _).mono ?_
  rintro e w5 ⟨rfl, hb5⟩
  have hb5 := (hb1).trans (hb5.mono (by have := hb1.size; have := hz.out; show _ ≤ w1.heap.size; omega))
  clear hb1
  obtain ⟨k0, k1, k2, k3, k4, k5, k6, k7, k8⟩ := hcs.out _ hb5
  go_wp2_with fail
  refine hK.out _ _ _ (fun u hu => hu) (⟨k0, k1, k2, k3, k4, k5, k6, k7, k8⟩) ?_
  clear hK K
  iterate 3
    first
      | (refine mv_free ?_ (Or.inl ⟨by rfl, ?_⟩) (⟨k0, k1, k2, k3, k4, k5, k6, k7, k8⟩) ?_
         rotate_left 1
         · intro u
           go_simp
           try with_reducible rfl
         simp only [Act.put, List.setIfInBounds_toArray, List.set_cons_zero, List.set_cons_succ])
      | (refine mv_free _ (Or.inr ⟨by rfl, rfl⟩) (⟨k0, k1, k2, k3, k4, k5, k6, k7, k8⟩) ?_
         simp only [Act.put, List.setIfInBounds_toArray, List.set_cons_zero, List.set_cons_succ])
  refine mv_step (fun K hK => ?_)
  go_simp
  refine (C6.out _).mono ?_
  rintro e w6 ⟨rfl, hb6⟩
  have hb6 := (hb5).trans (hb6.mono (by have := hb5.size; have := hz.out; show _ ≤ w5.heap.size; omega))
  clear hb5
  obtain ⟨k0, k1, k2, k3, k4, k5, k6, k7, k8⟩ := hcs.out _ hb6
  go_wp2_with fail
  refine hK.out _ _ _ (fun u hu => hu) (⟨k0, k1, k2, k3, k4, k5, k6, k7, k8⟩) ?_
  clear hK K
  iterate 2
    first
      | (refine mv_free ?_ (Or.inl ⟨by rfl, ?_⟩) (⟨k0, k1, k2, k3, k4, k5, k6, k7, k8⟩) ?_
         rotate_left 1
         · intro u
           go_simp
           try with_reducible rfl
         simp only [Act.put, List.setIfInBounds_toArray, List.set_cons_zero, List.set_cons_succ])
      | (refine mv_free _ (Or.inr ⟨by rfl, rfl⟩) (⟨k0, k1, k2, k3, k4, k5, k6, k7, k8⟩) ?_
         simp only [Act.put, List.setIfInBounds_toArray, List.set_cons_zero, List.set_cons_succ])
  refine mv_done ?_
  go_wp2
  go_ret
  exact ⟨rfl, hb0.out.trans (hb6.mono (by omega))⟩
set_option maxRecDepth 100000 in
set_option maxHeartbeats 8000000 in
theorem asks3 (to c h r : Int) (w : World) : Calls Try.prog 10 #[.int .i64 3, .agg #[.int .i64 c, .int .i64 h, .int .i64 r], .int .i64 to] w fun e w' => e = .returned (.bool true) ∧ Below w.heap.size w w' := by
  have C1 := fun u => pasked 3 c h r u
  have C2 := fun u => rasked 3 c h r u
  have C3 := fun u => psoon 3 to u
  have C4 := fun u => rsoon 3 to u
  have C5 := Lib.hid (fun u => pname3 u)
  have C6 := Lib.hid (fun u => lives50 u)
  generalize phA 3 c h r = k at *
  generalize phQ 3 to = Q at *
  replace C1 := Lib.hid C1
  replace C2 := Lib.hid C2
  replace C3 := Lib.hid C3
  replace C4 := Lib.hid C4
  obtain ⟨V, eV, hb0, hz, hcs⟩ := pas_box w c h r
  replace hb0 := Lib.hid hb0
  replace hz := Lib.hid hz
  replace hcs := Lib.hid hcs
  replace eV := Lib.hid eV
  go_enter Try.func10, Try.ntmps10
  go_wp2_with fail
  rw [← eV.out]
  obtain ⟨k0, k1, k2, k3, k4, k5, k6, k7, k8⟩ := hcs.out _ (Below.refl _ _)
  refine region_moves (fun u => u.cell? ⟨w.heap.size, 0, none⟩ = some (.int .i64 c) ∧ u.cell? ⟨w.heap.size, 1, none⟩ = some (.int .i64 h) ∧ u.cell? ⟨w.heap.size, 2, none⟩ = some (.int .i64 r) ∧ u.cell? ⟨w.heap.size + 1, 0, none⟩ = some (.string ⟨#[103, 114, 111, 117, 110, 100]⟩) ∧ u.cell? ⟨w.heap.size + 1, 1, none⟩ = some (.string ⟨#[116, 97, 107, 101, 111, 102, 102]⟩) ∧ u.cell? ⟨w.heap.size + 1, 2, none⟩ = some (.string ⟨#[99, 108, 105, 109, 98]⟩) ∧ u.cell? ⟨w.heap.size + 1, 3, none⟩ = some (.string ⟨#[99, 114, 117, 105, 115, 101]⟩) ∧ u.cell? ⟨w.heap.size + 1, 4, none⟩ = some (.string ⟨#[100, 101, 115, 99, 101, 110, 116]⟩) ∧ u.cell? ⟨w.heap.size + 1, 5, none⟩ = some (.string ⟨#[108, 97, 110, 100, 105, 110, 103]⟩)) [] [(.free, 0), (.take, 1), (.free, 3), (.free, 4), (.take, 5), (.free, 6), (.take, 7), (.free, 8), (.take, 9), (.step, 2), (.step, 10), (.free, 11), (.free, 12), (.free, 13), (.free, 14), (.free, 16), (.free, 17), (.step, 15), (.step, 18), (.free, 19), (.free, 20), (.free, 21), (.free, 22), (.free, 24), (.step, 23), (.free, 25), (.free, 26), (.free, 27), (.step, 28), (.free, 29), (.free, 30)] _ (by kernel_rfl) (by kernel_rfl) (by kernel_rfl) (by kernel_rfl) (by decide) rfl (fun _ _ _ _ _ h => h) ?_
  simp only [List.filterMap_cons, List.filterMap_nil, List.getElem?_toArray, List.getElem?_cons_zero, List.getElem?_cons_succ, Option.map_some]
  iterate 1
    first
      | (refine mv_free ?_ (Or.inl ⟨by rfl, ?_⟩) (⟨k0, k1, k2, k3, k4, k5, k6, k7, k8⟩) ?_
         rotate_left 1
         · intro u
           go_simp
           try with_reducible rfl
         simp only [Act.put, List.setIfInBounds_toArray, List.set_cons_zero, List.set_cons_succ])
      | (refine mv_free _ (Or.inr ⟨by rfl, rfl⟩) (⟨k0, k1, k2, k3, k4, k5, k6, k7, k8⟩) ?_
         simp only [Act.put, List.setIfInBounds_toArray, List.set_cons_zero, List.set_cons_succ])
  iterate 1
    first
      | (refine mv_take ?_ (Or.inl ⟨by rfl, ?_⟩) (⟨k0, k1, k2, k3, k4, k5, k6, k7, k8⟩) ?_
         rotate_left 1
         · intro u hu
           (try dsimp only at hu)
           go_simp
           try with_reducible rfl
         simp only [Act.put, List.setIfInBounds_toArray, List.set_cons_zero, List.set_cons_succ])
      | (refine mv_take _ (Or.inr ⟨by rfl, rfl⟩) (⟨k0, k1, k2, k3, k4, k5, k6, k7, k8⟩) ?_
         simp only [Act.put, List.setIfInBounds_toArray, List.set_cons_zero, List.set_cons_succ])
  iterate 2
    first
      | (refine mv_free ?_ (Or.inl ⟨by rfl, ?_⟩) (⟨k0, k1, k2, k3, k4, k5, k6, k7, k8⟩) ?_
         rotate_left 1
         · intro u
           go_simp
           try with_reducible rfl
         simp only [Act.put, List.setIfInBounds_toArray, List.set_cons_zero, List.set_cons_succ])
      | (refine mv_free _ (Or.inr ⟨by rfl, rfl⟩) (⟨k0, k1, k2, k3, k4, k5, k6, k7, k8⟩) ?_
         simp only [Act.put, List.setIfInBounds_toArray, List.set_cons_zero, List.set_cons_succ])
  iterate 1
    first
      | (refine mv_take ?_ (Or.inl ⟨by rfl, ?_⟩) (⟨k0, k1, k2, k3, k4, k5, k6, k7, k8⟩) ?_
         rotate_left 1
         · intro u hu
           (try dsimp only at hu)
           go_simp
           try with_reducible rfl
         simp only [Act.put, List.setIfInBounds_toArray, List.set_cons_zero, List.set_cons_succ])
      | (refine mv_take _ (Or.inr ⟨by rfl, rfl⟩) (⟨k0, k1, k2, k3, k4, k5, k6, k7, k8⟩) ?_
         simp only [Act.put, List.setIfInBounds_toArray, List.set_cons_zero, List.set_cons_succ])
  iterate 1
    first
      | (refine mv_free ?_ (Or.inl ⟨by rfl, ?_⟩) (⟨k0, k1, k2, k3, k4, k5, k6, k7, k8⟩) ?_
         rotate_left 1
         · intro u
           go_simp
           try with_reducible rfl
         simp only [Act.put, List.setIfInBounds_toArray, List.set_cons_zero, List.set_cons_succ])
      | (refine mv_free _ (Or.inr ⟨by rfl, rfl⟩) (⟨k0, k1, k2, k3, k4, k5, k6, k7, k8⟩) ?_
         simp only [Act.put, List.setIfInBounds_toArray, List.set_cons_zero, List.set_cons_succ])
  iterate 1
    first
      | (refine mv_take ?_ (Or.inl ⟨by rfl, ?_⟩) (⟨k0, k1, k2, k3, k4, k5, k6, k7, k8⟩) ?_
         rotate_left 1
         · intro u hu
           (try dsimp only at hu)
           go_simp
           try with_reducible rfl
         simp only [Act.put, List.setIfInBounds_toArray, List.set_cons_zero, List.set_cons_succ])
      | (refine mv_take _ (Or.inr ⟨by rfl, rfl⟩) (⟨k0, k1, k2, k3, k4, k5, k6, k7, k8⟩) ?_
         simp only [Act.put, List.setIfInBounds_toArray, List.set_cons_zero, List.set_cons_succ])
  iterate 1
    first
      | (refine mv_free ?_ (Or.inl ⟨by rfl, ?_⟩) (⟨k0, k1, k2, k3, k4, k5, k6, k7, k8⟩) ?_
         rotate_left 1
         · intro u
           go_simp
           try with_reducible rfl
         simp only [Act.put, List.setIfInBounds_toArray, List.set_cons_zero, List.set_cons_succ])
      | (refine mv_free _ (Or.inr ⟨by rfl, rfl⟩) (⟨k0, k1, k2, k3, k4, k5, k6, k7, k8⟩) ?_
         simp only [Act.put, List.setIfInBounds_toArray, List.set_cons_zero, List.set_cons_succ])
  iterate 1
    first
      | (refine mv_take ?_ (Or.inl ⟨by rfl, ?_⟩) (⟨k0, k1, k2, k3, k4, k5, k6, k7, k8⟩) ?_
         rotate_left 1
         · intro u hu
           (try dsimp only at hu)
           go_simp
           try with_reducible rfl
         simp only [Act.put, List.setIfInBounds_toArray, List.set_cons_zero, List.set_cons_succ])
      | (refine mv_take _ (Or.inr ⟨by rfl, rfl⟩) (⟨k0, k1, k2, k3, k4, k5, k6, k7, k8⟩) ?_
         simp only [Act.put, List.setIfInBounds_toArray, List.set_cons_zero, List.set_cons_succ])
  refine mv_step (fun K hK => ?_)
  go_simp
  refine (C1.out _).mono ?_
  rintro e w1 ⟨rfl, hb1⟩
  have hb1 := ((Below.refl (w.heap.size + 2) V).drew).trans (hb1.mono (by have := hz.out; show _ ≤ V.heap.size; omega))
  obtain ⟨k0, k1, k2, k3, k4, k5, k6, k7, k8⟩ := hcs.out _ hb1
  go_wp2_with fail
  refine hK.out _ _ _ (fun u hu => hu) (⟨k0, k1, k2, k3, k4, k5, k6, k7, k8⟩) ?_
  clear hK K
  refine mv_step (fun K hK => ?_)
  go_simp
  refine (C2.out _).mono ?_
  rintro e w' ⟨rfl, rfl⟩
  go_wp2_with fail
  refine hK.out _ _ _ (fun u hu => hu) (⟨k0, k1, k2, k3, k4, k5, k6, k7, k8⟩) ?_
  clear hK K
  iterate 6
    first
      | (refine mv_free ?_ (Or.inl ⟨by rfl, ?_⟩) (⟨k0, k1, k2, k3, k4, k5, k6, k7, k8⟩) ?_
         rotate_left 1
         · intro u
           go_simp
           try with_reducible rfl
         simp only [Act.put, List.setIfInBounds_toArray, List.set_cons_zero, List.set_cons_succ])
      | (refine mv_free _ (Or.inr ⟨by rfl, rfl⟩) (⟨k0, k1, k2, k3, k4, k5, k6, k7, k8⟩) ?_
         simp only [Act.put, List.setIfInBounds_toArray, List.set_cons_zero, List.set_cons_succ])
  refine mv_step (fun K hK => ?_)
  go_simp
  refine (C3.out _).mono ?_
  rintro e w' ⟨rfl, rfl⟩
  go_wp2_with fail
  refine hK.out _ _ _ (fun u hu => hu) (⟨k0, k1, k2, k3, k4, k5, k6, k7, k8⟩) ?_
  clear hK K
  refine mv_step (fun K hK => ?_)
  go_simp
  refine (C4.out _).mono ?_
  rintro e w' ⟨rfl, rfl⟩
  go_wp2_with fail
  refine hK.out _ _ _ (fun u hu => hu) (⟨k0, k1, k2, k3, k4, k5, k6, k7, k8⟩) ?_
  clear hK K
  iterate 5
    first
      | (refine mv_free ?_ (Or.inl ⟨by rfl, ?_⟩) (⟨k0, k1, k2, k3, k4, k5, k6, k7, k8⟩) ?_
         rotate_left 1
         · intro u
           go_simp
           try with_reducible rfl
         simp only [Act.put, List.setIfInBounds_toArray, List.set_cons_zero, List.set_cons_succ])
      | (refine mv_free _ (Or.inr ⟨by rfl, rfl⟩) (⟨k0, k1, k2, k3, k4, k5, k6, k7, k8⟩) ?_
         simp only [Act.put, List.setIfInBounds_toArray, List.set_cons_zero, List.set_cons_succ])
  refine mv_step (fun K hK => ?_)
  go_simp
  refine (C5.out _).mono ?_
  rintro e w5 ⟨rfl, hb5⟩
  have hb5 := (hb1).trans (hb5.mono (by have := hb1.size; have := hz.out; show _ ≤ w1.heap.size; omega))
  clear hb1
  obtain ⟨k0, k1, k2, k3, k4, k5, k6, k7, k8⟩ := hcs.out _ hb5
  go_wp2_with fail
  refine hK.out _ _ _ (fun u hu => hu) (⟨k0, k1, k2, k3, k4, k5, k6, k7, k8⟩) ?_
  clear hK K
  iterate 3
    first
      | (refine mv_free ?_ (Or.inl ⟨by rfl, ?_⟩) (⟨k0, k1, k2, k3, k4, k5, k6, k7, k8⟩) ?_
         rotate_left 1
         · intro u
           go_simp
           try with_reducible rfl
         simp only [Act.put, List.setIfInBounds_toArray, List.set_cons_zero, List.set_cons_succ])
      | (refine mv_free _ (Or.inr ⟨by rfl, rfl⟩) (⟨k0, k1, k2, k3, k4, k5, k6, k7, k8⟩) ?_
         simp only [Act.put, List.setIfInBounds_toArray, List.set_cons_zero, List.set_cons_succ])
  refine mv_step (fun K hK => ?_)
  go_simp
  refine (C6.out _).mono ?_
  rintro e w6 ⟨rfl, hb6⟩
  have hb6 := (hb5).trans (hb6.mono (by have := hb5.size; have := hz.out; show _ ≤ w5.heap.size; omega))
  clear hb5
  obtain ⟨k0, k1, k2, k3, k4, k5, k6, k7, k8⟩ := hcs.out _ hb6
  go_wp2_with fail
  refine hK.out _ _ _ (fun u hu => hu) (⟨k0, k1, k2, k3, k4, k5, k6, k7, k8⟩) ?_
  clear hK K
  iterate 2
    first
      | (refine mv_free ?_ (Or.inl ⟨by rfl, ?_⟩) (⟨k0, k1, k2, k3, k4, k5, k6, k7, k8⟩) ?_
         rotate_left 1
         · intro u
           go_simp
           try with_reducible rfl
         simp only [Act.put, List.setIfInBounds_toArray, List.set_cons_zero, List.set_cons_succ])
      | (refine mv_free _ (Or.inr ⟨by rfl, rfl⟩) (⟨k0, k1, k2, k3, k4, k5, k6, k7, k8⟩) ?_
         simp only [Act.put, List.setIfInBounds_toArray, List.set_cons_zero, List.set_cons_succ])
  refine mv_done ?_
  go_wp2
  go_ret
  exact ⟨rfl, hb0.out.trans (hb6.mono (by omega))⟩
set_option maxRecDepth 100000 in
set_option maxHeartbeats 8000000 in
theorem asks4 (to c h r : Int) (w : World) : Calls Try.prog 10 #[.int .i64 4, .agg #[.int .i64 c, .int .i64 h, .int .i64 r], .int .i64 to] w fun e w' => e = .returned (.bool true) ∧ Below w.heap.size w w' := by
  have C1 := fun u => pasked 4 c h r u
  have C2 := fun u => rasked 4 c h r u
  have C3 := fun u => psoon 4 to u
  have C4 := fun u => rsoon 4 to u
  have C5 := Lib.hid (fun u => pname4 u)
  have C6 := Lib.hid (fun u => lives50 u)
  generalize phA 4 c h r = k at *
  generalize phQ 4 to = Q at *
  replace C1 := Lib.hid C1
  replace C2 := Lib.hid C2
  replace C3 := Lib.hid C3
  replace C4 := Lib.hid C4
  obtain ⟨V, eV, hb0, hz, hcs⟩ := pas_box w c h r
  replace hb0 := Lib.hid hb0
  replace hz := Lib.hid hz
  replace hcs := Lib.hid hcs
  replace eV := Lib.hid eV
  go_enter Try.func10, Try.ntmps10
  go_wp2_with fail
  rw [← eV.out]
  obtain ⟨k0, k1, k2, k3, k4, k5, k6, k7, k8⟩ := hcs.out _ (Below.refl _ _)
  refine region_moves (fun u => u.cell? ⟨w.heap.size, 0, none⟩ = some (.int .i64 c) ∧ u.cell? ⟨w.heap.size, 1, none⟩ = some (.int .i64 h) ∧ u.cell? ⟨w.heap.size, 2, none⟩ = some (.int .i64 r) ∧ u.cell? ⟨w.heap.size + 1, 0, none⟩ = some (.string ⟨#[103, 114, 111, 117, 110, 100]⟩) ∧ u.cell? ⟨w.heap.size + 1, 1, none⟩ = some (.string ⟨#[116, 97, 107, 101, 111, 102, 102]⟩) ∧ u.cell? ⟨w.heap.size + 1, 2, none⟩ = some (.string ⟨#[99, 108, 105, 109, 98]⟩) ∧ u.cell? ⟨w.heap.size + 1, 3, none⟩ = some (.string ⟨#[99, 114, 117, 105, 115, 101]⟩) ∧ u.cell? ⟨w.heap.size + 1, 4, none⟩ = some (.string ⟨#[100, 101, 115, 99, 101, 110, 116]⟩) ∧ u.cell? ⟨w.heap.size + 1, 5, none⟩ = some (.string ⟨#[108, 97, 110, 100, 105, 110, 103]⟩)) [] [(.free, 0), (.take, 1), (.free, 3), (.free, 4), (.take, 5), (.free, 6), (.take, 7), (.free, 8), (.take, 9), (.step, 2), (.step, 10), (.free, 11), (.free, 12), (.free, 13), (.free, 14), (.free, 16), (.free, 17), (.step, 15), (.step, 18), (.free, 19), (.free, 20), (.free, 21), (.free, 22), (.free, 24), (.step, 23), (.free, 25), (.free, 26), (.free, 27), (.step, 28), (.free, 29), (.free, 30)] _ (by kernel_rfl) (by kernel_rfl) (by kernel_rfl) (by kernel_rfl) (by decide) rfl (fun _ _ _ _ _ h => h) ?_
  simp only [List.filterMap_cons, List.filterMap_nil, List.getElem?_toArray, List.getElem?_cons_zero, List.getElem?_cons_succ, Option.map_some]
  iterate 1
    first
      | (refine mv_free ?_ (Or.inl ⟨by rfl, ?_⟩) (⟨k0, k1, k2, k3, k4, k5, k6, k7, k8⟩) ?_
         rotate_left 1
         · intro u
           go_simp
           try with_reducible rfl
         simp only [Act.put, List.setIfInBounds_toArray, List.set_cons_zero, List.set_cons_succ])
      | (refine mv_free _ (Or.inr ⟨by rfl, rfl⟩) (⟨k0, k1, k2, k3, k4, k5, k6, k7, k8⟩) ?_
         simp only [Act.put, List.setIfInBounds_toArray, List.set_cons_zero, List.set_cons_succ])
  iterate 1
    first
      | (refine mv_take ?_ (Or.inl ⟨by rfl, ?_⟩) (⟨k0, k1, k2, k3, k4, k5, k6, k7, k8⟩) ?_
         rotate_left 1
         · intro u hu
           (try dsimp only at hu)
           go_simp
           try with_reducible rfl
         simp only [Act.put, List.setIfInBounds_toArray, List.set_cons_zero, List.set_cons_succ])
      | (refine mv_take _ (Or.inr ⟨by rfl, rfl⟩) (⟨k0, k1, k2, k3, k4, k5, k6, k7, k8⟩) ?_
         simp only [Act.put, List.setIfInBounds_toArray, List.set_cons_zero, List.set_cons_succ])
  iterate 2
    first
      | (refine mv_free ?_ (Or.inl ⟨by rfl, ?_⟩) (⟨k0, k1, k2, k3, k4, k5, k6, k7, k8⟩) ?_
         rotate_left 1
         · intro u
           go_simp
           try with_reducible rfl
         simp only [Act.put, List.setIfInBounds_toArray, List.set_cons_zero, List.set_cons_succ])
      | (refine mv_free _ (Or.inr ⟨by rfl, rfl⟩) (⟨k0, k1, k2, k3, k4, k5, k6, k7, k8⟩) ?_
         simp only [Act.put, List.setIfInBounds_toArray, List.set_cons_zero, List.set_cons_succ])
  iterate 1
    first
      | (refine mv_take ?_ (Or.inl ⟨by rfl, ?_⟩) (⟨k0, k1, k2, k3, k4, k5, k6, k7, k8⟩) ?_
         rotate_left 1
         · intro u hu
           (try dsimp only at hu)
           go_simp
           try with_reducible rfl
         simp only [Act.put, List.setIfInBounds_toArray, List.set_cons_zero, List.set_cons_succ])
      | (refine mv_take _ (Or.inr ⟨by rfl, rfl⟩) (⟨k0, k1, k2, k3, k4, k5, k6, k7, k8⟩) ?_
         simp only [Act.put, List.setIfInBounds_toArray, List.set_cons_zero, List.set_cons_succ])
  iterate 1
    first
      | (refine mv_free ?_ (Or.inl ⟨by rfl, ?_⟩) (⟨k0, k1, k2, k3, k4, k5, k6, k7, k8⟩) ?_
         rotate_left 1
         · intro u
           go_simp
           try with_reducible rfl
         simp only [Act.put, List.setIfInBounds_toArray, List.set_cons_zero, List.set_cons_succ])
      | (refine mv_free _ (Or.inr ⟨by rfl, rfl⟩) (⟨k0, k1, k2, k3, k4, k5, k6, k7, k8⟩) ?_
         simp only [Act.put, List.setIfInBounds_toArray, List.set_cons_zero, List.set_cons_succ])
  iterate 1
    first
      | (refine mv_take ?_ (Or.inl ⟨by rfl, ?_⟩) (⟨k0, k1, k2, k3, k4, k5, k6, k7, k8⟩) ?_
         rotate_left 1
         · intro u hu
           (try dsimp only at hu)
           go_simp
           try with_reducible rfl
         simp only [Act.put, List.setIfInBounds_toArray, List.set_cons_zero, List.set_cons_succ])
      | (refine mv_take _ (Or.inr ⟨by rfl, rfl⟩) (⟨k0, k1, k2, k3, k4, k5, k6, k7, k8⟩) ?_
         simp only [Act.put, List.setIfInBounds_toArray, List.set_cons_zero, List.set_cons_succ])
  iterate 1
    first
      | (refine mv_free ?_ (Or.inl ⟨by rfl, ?_⟩) (⟨k0, k1, k2, k3, k4, k5, k6, k7, k8⟩) ?_
         rotate_left 1
         · intro u
           go_simp
           try with_reducible rfl
         simp only [Act.put, List.setIfInBounds_toArray, List.set_cons_zero, List.set_cons_succ])
      | (refine mv_free _ (Or.inr ⟨by rfl, rfl⟩) (⟨k0, k1, k2, k3, k4, k5, k6, k7, k8⟩) ?_
         simp only [Act.put, List.setIfInBounds_toArray, List.set_cons_zero, List.set_cons_succ])
  iterate 1
    first
      | (refine mv_take ?_ (Or.inl ⟨by rfl, ?_⟩) (⟨k0, k1, k2, k3, k4, k5, k6, k7, k8⟩) ?_
         rotate_left 1
         · intro u hu
           (try dsimp only at hu)
           go_simp
           try with_reducible rfl
         simp only [Act.put, List.setIfInBounds_toArray, List.set_cons_zero, List.set_cons_succ])
      | (refine mv_take _ (Or.inr ⟨by rfl, rfl⟩) (⟨k0, k1, k2, k3, k4, k5, k6, k7, k8⟩) ?_
         simp only [Act.put, List.setIfInBounds_toArray, List.set_cons_zero, List.set_cons_succ])
  refine mv_step (fun K hK => ?_)
  go_simp
  refine (C1.out _).mono ?_
  rintro e w1 ⟨rfl, hb1⟩
  have hb1 := ((Below.refl (w.heap.size + 2) V).drew).trans (hb1.mono (by have := hz.out; show _ ≤ V.heap.size; omega))
  obtain ⟨k0, k1, k2, k3, k4, k5, k6, k7, k8⟩ := hcs.out _ hb1
  go_wp2_with fail
  refine hK.out _ _ _ (fun u hu => hu) (⟨k0, k1, k2, k3, k4, k5, k6, k7, k8⟩) ?_
  clear hK K
  refine mv_step (fun K hK => ?_)
  go_simp
  refine (C2.out _).mono ?_
  rintro e w' ⟨rfl, rfl⟩
  go_wp2_with fail
  refine hK.out _ _ _ (fun u hu => hu) (⟨k0, k1, k2, k3, k4, k5, k6, k7, k8⟩) ?_
  clear hK K
  iterate 6
    first
      | (refine mv_free ?_ (Or.inl ⟨by rfl, ?_⟩) (⟨k0, k1, k2, k3, k4, k5, k6, k7, k8⟩) ?_
         rotate_left 1
         · intro u
           go_simp
           try with_reducible rfl
         simp only [Act.put, List.setIfInBounds_toArray, List.set_cons_zero, List.set_cons_succ])
      | (refine mv_free _ (Or.inr ⟨by rfl, rfl⟩) (⟨k0, k1, k2, k3, k4, k5, k6, k7, k8⟩) ?_
         simp only [Act.put, List.setIfInBounds_toArray, List.set_cons_zero, List.set_cons_succ])
  refine mv_step (fun K hK => ?_)
  go_simp
  refine (C3.out _).mono ?_
  rintro e w' ⟨rfl, rfl⟩
  go_wp2_with fail
  refine hK.out _ _ _ (fun u hu => hu) (⟨k0, k1, k2, k3, k4, k5, k6, k7, k8⟩) ?_
  clear hK K
  refine mv_step (fun K hK => ?_)
  go_simp
  refine (C4.out _).mono ?_
  rintro e w' ⟨rfl, rfl⟩
  go_wp2_with fail
  refine hK.out _ _ _ (fun u hu => hu) (⟨k0, k1, k2, k3, k4, k5, k6, k7, k8⟩) ?_
  clear hK K
  iterate 5
    first
      | (refine mv_free ?_ (Or.inl ⟨by rfl, ?_⟩) (⟨k0, k1, k2, k3, k4, k5, k6, k7, k8⟩) ?_
         rotate_left 1
         · intro u
           go_simp
           try with_reducible rfl
         simp only [Act.put, List.setIfInBounds_toArray, List.set_cons_zero, List.set_cons_succ])
      | (refine mv_free _ (Or.inr ⟨by rfl, rfl⟩) (⟨k0, k1, k2, k3, k4, k5, k6, k7, k8⟩) ?_
         simp only [Act.put, List.setIfInBounds_toArray, List.set_cons_zero, List.set_cons_succ])
  refine mv_step (fun K hK => ?_)
  go_simp
  refine (C5.out _).mono ?_
  rintro e w5 ⟨rfl, hb5⟩
  have hb5 := (hb1).trans (hb5.mono (by have := hb1.size; have := hz.out; show _ ≤ w1.heap.size; omega))
  clear hb1
  obtain ⟨k0, k1, k2, k3, k4, k5, k6, k7, k8⟩ := hcs.out _ hb5
  go_wp2_with fail
  refine hK.out _ _ _ (fun u hu => hu) (⟨k0, k1, k2, k3, k4, k5, k6, k7, k8⟩) ?_
  clear hK K
  iterate 3
    first
      | (refine mv_free ?_ (Or.inl ⟨by rfl, ?_⟩) (⟨k0, k1, k2, k3, k4, k5, k6, k7, k8⟩) ?_
         rotate_left 1
         · intro u
           go_simp
           try with_reducible rfl
         simp only [Act.put, List.setIfInBounds_toArray, List.set_cons_zero, List.set_cons_succ])
      | (refine mv_free _ (Or.inr ⟨by rfl, rfl⟩) (⟨k0, k1, k2, k3, k4, k5, k6, k7, k8⟩) ?_
         simp only [Act.put, List.setIfInBounds_toArray, List.set_cons_zero, List.set_cons_succ])
  refine mv_step (fun K hK => ?_)
  go_simp
  refine (C6.out _).mono ?_
  rintro e w6 ⟨rfl, hb6⟩
  have hb6 := (hb5).trans (hb6.mono (by have := hb5.size; have := hz.out; show _ ≤ w5.heap.size; omega))
  clear hb5
  obtain ⟨k0, k1, k2, k3, k4, k5, k6, k7, k8⟩ := hcs.out _ hb6
  go_wp2_with fail
  refine hK.out _ _ _ (fun u hu => hu) (⟨k0, k1, k2, k3, k4, k5, k6, k7, k8⟩) ?_
  clear hK K
  iterate 2
    first
      | (refine mv_free ?_ (Or.inl ⟨by rfl, ?_⟩) (⟨k0, k1, k2, k3, k4, k5, k6, k7, k8⟩) ?_
         rotate_left 1
         · intro u
           go_simp
           try with_reducible rfl
         simp only [Act.put, List.setIfInBounds_toArray, List.set_cons_zero, List.set_cons_succ])
      | (refine mv_free _ (Or.inr ⟨by rfl, rfl⟩) (⟨k0, k1, k2, k3, k4, k5, k6, k7, k8⟩) ?_
         simp only [Act.put, List.setIfInBounds_toArray, List.set_cons_zero, List.set_cons_succ])
  refine mv_done ?_
  go_wp2
  go_ret
  exact ⟨rfl, hb0.out.trans (hb6.mono (by omega))⟩
set_option maxRecDepth 100000 in
set_option maxHeartbeats 8000000 in
theorem asks5 (to c h r : Int) (w : World) : Calls Try.prog 10 #[.int .i64 5, .agg #[.int .i64 c, .int .i64 h, .int .i64 r], .int .i64 to] w fun e w' => e = .returned (.bool true) ∧ Below w.heap.size w w' := by
  have C1 := fun u => pasked 5 c h r u
  have C2 := fun u => rasked 5 c h r u
  have C3 := fun u => psoon 5 to u
  have C4 := fun u => rsoon 5 to u
  have C5 := Lib.hid (fun u => pname5 u)
  have C6 := Lib.hid (fun u => lives50 u)
  generalize phA 5 c h r = k at *
  generalize phQ 5 to = Q at *
  replace C1 := Lib.hid C1
  replace C2 := Lib.hid C2
  replace C3 := Lib.hid C3
  replace C4 := Lib.hid C4
  obtain ⟨V, eV, hb0, hz, hcs⟩ := pas_box w c h r
  replace hb0 := Lib.hid hb0
  replace hz := Lib.hid hz
  replace hcs := Lib.hid hcs
  replace eV := Lib.hid eV
  go_enter Try.func10, Try.ntmps10
  go_wp2_with fail
  rw [← eV.out]
  obtain ⟨k0, k1, k2, k3, k4, k5, k6, k7, k8⟩ := hcs.out _ (Below.refl _ _)
  refine region_moves (fun u => u.cell? ⟨w.heap.size, 0, none⟩ = some (.int .i64 c) ∧ u.cell? ⟨w.heap.size, 1, none⟩ = some (.int .i64 h) ∧ u.cell? ⟨w.heap.size, 2, none⟩ = some (.int .i64 r) ∧ u.cell? ⟨w.heap.size + 1, 0, none⟩ = some (.string ⟨#[103, 114, 111, 117, 110, 100]⟩) ∧ u.cell? ⟨w.heap.size + 1, 1, none⟩ = some (.string ⟨#[116, 97, 107, 101, 111, 102, 102]⟩) ∧ u.cell? ⟨w.heap.size + 1, 2, none⟩ = some (.string ⟨#[99, 108, 105, 109, 98]⟩) ∧ u.cell? ⟨w.heap.size + 1, 3, none⟩ = some (.string ⟨#[99, 114, 117, 105, 115, 101]⟩) ∧ u.cell? ⟨w.heap.size + 1, 4, none⟩ = some (.string ⟨#[100, 101, 115, 99, 101, 110, 116]⟩) ∧ u.cell? ⟨w.heap.size + 1, 5, none⟩ = some (.string ⟨#[108, 97, 110, 100, 105, 110, 103]⟩)) [] [(.free, 0), (.take, 1), (.free, 3), (.free, 4), (.take, 5), (.free, 6), (.take, 7), (.free, 8), (.take, 9), (.step, 2), (.step, 10), (.free, 11), (.free, 12), (.free, 13), (.free, 14), (.free, 16), (.free, 17), (.step, 15), (.step, 18), (.free, 19), (.free, 20), (.free, 21), (.free, 22), (.free, 24), (.step, 23), (.free, 25), (.free, 26), (.free, 27), (.step, 28), (.free, 29), (.free, 30)] _ (by kernel_rfl) (by kernel_rfl) (by kernel_rfl) (by kernel_rfl) (by decide) rfl (fun _ _ _ _ _ h => h) ?_
  simp only [List.filterMap_cons, List.filterMap_nil, List.getElem?_toArray, List.getElem?_cons_zero, List.getElem?_cons_succ, Option.map_some]
  iterate 1
    first
      | (refine mv_free ?_ (Or.inl ⟨by rfl, ?_⟩) (⟨k0, k1, k2, k3, k4, k5, k6, k7, k8⟩) ?_
         rotate_left 1
         · intro u
           go_simp
           try with_reducible rfl
         simp only [Act.put, List.setIfInBounds_toArray, List.set_cons_zero, List.set_cons_succ])
      | (refine mv_free _ (Or.inr ⟨by rfl, rfl⟩) (⟨k0, k1, k2, k3, k4, k5, k6, k7, k8⟩) ?_
         simp only [Act.put, List.setIfInBounds_toArray, List.set_cons_zero, List.set_cons_succ])
  iterate 1
    first
      | (refine mv_take ?_ (Or.inl ⟨by rfl, ?_⟩) (⟨k0, k1, k2, k3, k4, k5, k6, k7, k8⟩) ?_
         rotate_left 1
         · intro u hu
           (try dsimp only at hu)
           go_simp
           try with_reducible rfl
         simp only [Act.put, List.setIfInBounds_toArray, List.set_cons_zero, List.set_cons_succ])
      | (refine mv_take _ (Or.inr ⟨by rfl, rfl⟩) (⟨k0, k1, k2, k3, k4, k5, k6, k7, k8⟩) ?_
         simp only [Act.put, List.setIfInBounds_toArray, List.set_cons_zero, List.set_cons_succ])
  iterate 2
    first
      | (refine mv_free ?_ (Or.inl ⟨by rfl, ?_⟩) (⟨k0, k1, k2, k3, k4, k5, k6, k7, k8⟩) ?_
         rotate_left 1
         · intro u
           go_simp
           try with_reducible rfl
         simp only [Act.put, List.setIfInBounds_toArray, List.set_cons_zero, List.set_cons_succ])
      | (refine mv_free _ (Or.inr ⟨by rfl, rfl⟩) (⟨k0, k1, k2, k3, k4, k5, k6, k7, k8⟩) ?_
         simp only [Act.put, List.setIfInBounds_toArray, List.set_cons_zero, List.set_cons_succ])
  iterate 1
    first
      | (refine mv_take ?_ (Or.inl ⟨by rfl, ?_⟩) (⟨k0, k1, k2, k3, k4, k5, k6, k7, k8⟩) ?_
         rotate_left 1
         · intro u hu
           (try dsimp only at hu)
           go_simp
           try with_reducible rfl
         simp only [Act.put, List.setIfInBounds_toArray, List.set_cons_zero, List.set_cons_succ])
      | (refine mv_take _ (Or.inr ⟨by rfl, rfl⟩) (⟨k0, k1, k2, k3, k4, k5, k6, k7, k8⟩) ?_
         simp only [Act.put, List.setIfInBounds_toArray, List.set_cons_zero, List.set_cons_succ])
  iterate 1
    first
      | (refine mv_free ?_ (Or.inl ⟨by rfl, ?_⟩) (⟨k0, k1, k2, k3, k4, k5, k6, k7, k8⟩) ?_
         rotate_left 1
         · intro u
           go_simp
           try with_reducible rfl
         simp only [Act.put, List.setIfInBounds_toArray, List.set_cons_zero, List.set_cons_succ])
      | (refine mv_free _ (Or.inr ⟨by rfl, rfl⟩) (⟨k0, k1, k2, k3, k4, k5, k6, k7, k8⟩) ?_
         simp only [Act.put, List.setIfInBounds_toArray, List.set_cons_zero, List.set_cons_succ])
  iterate 1
    first
      | (refine mv_take ?_ (Or.inl ⟨by rfl, ?_⟩) (⟨k0, k1, k2, k3, k4, k5, k6, k7, k8⟩) ?_
         rotate_left 1
         · intro u hu
           (try dsimp only at hu)
           go_simp
           try with_reducible rfl
         simp only [Act.put, List.setIfInBounds_toArray, List.set_cons_zero, List.set_cons_succ])
      | (refine mv_take _ (Or.inr ⟨by rfl, rfl⟩) (⟨k0, k1, k2, k3, k4, k5, k6, k7, k8⟩) ?_
         simp only [Act.put, List.setIfInBounds_toArray, List.set_cons_zero, List.set_cons_succ])
  iterate 1
    first
      | (refine mv_free ?_ (Or.inl ⟨by rfl, ?_⟩) (⟨k0, k1, k2, k3, k4, k5, k6, k7, k8⟩) ?_
         rotate_left 1
         · intro u
           go_simp
           try with_reducible rfl
         simp only [Act.put, List.setIfInBounds_toArray, List.set_cons_zero, List.set_cons_succ])
      | (refine mv_free _ (Or.inr ⟨by rfl, rfl⟩) (⟨k0, k1, k2, k3, k4, k5, k6, k7, k8⟩) ?_
         simp only [Act.put, List.setIfInBounds_toArray, List.set_cons_zero, List.set_cons_succ])
  iterate 1
    first
      | (refine mv_take ?_ (Or.inl ⟨by rfl, ?_⟩) (⟨k0, k1, k2, k3, k4, k5, k6, k7, k8⟩) ?_
         rotate_left 1
         · intro u hu
           (try dsimp only at hu)
           go_simp
           try with_reducible rfl
         simp only [Act.put, List.setIfInBounds_toArray, List.set_cons_zero, List.set_cons_succ])
      | (refine mv_take _ (Or.inr ⟨by rfl, rfl⟩) (⟨k0, k1, k2, k3, k4, k5, k6, k7, k8⟩) ?_
         simp only [Act.put, List.setIfInBounds_toArray, List.set_cons_zero, List.set_cons_succ])
  refine mv_step (fun K hK => ?_)
  go_simp
  refine (C1.out _).mono ?_
  rintro e w1 ⟨rfl, hb1⟩
  have hb1 := ((Below.refl (w.heap.size + 2) V).drew).trans (hb1.mono (by have := hz.out; show _ ≤ V.heap.size; omega))
  obtain ⟨k0, k1, k2, k3, k4, k5, k6, k7, k8⟩ := hcs.out _ hb1
  go_wp2_with fail
  refine hK.out _ _ _ (fun u hu => hu) (⟨k0, k1, k2, k3, k4, k5, k6, k7, k8⟩) ?_
  clear hK K
  refine mv_step (fun K hK => ?_)
  go_simp
  refine (C2.out _).mono ?_
  rintro e w' ⟨rfl, rfl⟩
  go_wp2_with fail
  refine hK.out _ _ _ (fun u hu => hu) (⟨k0, k1, k2, k3, k4, k5, k6, k7, k8⟩) ?_
  clear hK K
  iterate 6
    first
      | (refine mv_free ?_ (Or.inl ⟨by rfl, ?_⟩) (⟨k0, k1, k2, k3, k4, k5, k6, k7, k8⟩) ?_
         rotate_left 1
         · intro u
           go_simp
           try with_reducible rfl
         simp only [Act.put, List.setIfInBounds_toArray, List.set_cons_zero, List.set_cons_succ])
      | (refine mv_free _ (Or.inr ⟨by rfl, rfl⟩) (⟨k0, k1, k2, k3, k4, k5, k6, k7, k8⟩) ?_
         simp only [Act.put, List.setIfInBounds_toArray, List.set_cons_zero, List.set_cons_succ])
  refine mv_step (fun K hK => ?_)
  go_simp
  refine (C3.out _).mono ?_
  rintro e w' ⟨rfl, rfl⟩
  go_wp2_with fail
  refine hK.out _ _ _ (fun u hu => hu) (⟨k0, k1, k2, k3, k4, k5, k6, k7, k8⟩) ?_
  clear hK K
  refine mv_step (fun K hK => ?_)
  go_simp
  refine (C4.out _).mono ?_
  rintro e w' ⟨rfl, rfl⟩
  go_wp2_with fail
  refine hK.out _ _ _ (fun u hu => hu) (⟨k0, k1, k2, k3, k4, k5, k6, k7, k8⟩) ?_
  clear hK K
  iterate 5
    first
      | (refine mv_free ?_ (Or.inl ⟨by rfl, ?_⟩) (⟨k0, k1, k2, k3, k4, k5, k6, k7, k8⟩) ?_
         rotate_left 1
         · intro u
           go_simp
           try with_reducible rfl
         simp only [Act.put, List.setIfInBounds_toArray, List.set_cons_zero, List.set_cons_succ])
      | (refine mv_free _ (Or.inr ⟨by rfl, rfl⟩) (⟨k0, k1, k2, k3, k4, k5, k6, k7, k8⟩) ?_
         simp only [Act.put, List.setIfInBounds_toArray, List.set_cons_zero, List.set_cons_succ])
  refine mv_step (fun K hK => ?_)
  go_simp
  refine (C5.out _).mono ?_
  rintro e w5 ⟨rfl, hb5⟩
  have hb5 := (hb1).trans (hb5.mono (by have := hb1.size; have := hz.out; show _ ≤ w1.heap.size; omega))
  clear hb1
  obtain ⟨k0, k1, k2, k3, k4, k5, k6, k7, k8⟩ := hcs.out _ hb5
  go_wp2_with fail
  refine hK.out _ _ _ (fun u hu => hu) (⟨k0, k1, k2, k3, k4, k5, k6, k7, k8⟩) ?_
  clear hK K
  iterate 3
    first
      | (refine mv_free ?_ (Or.inl ⟨by rfl, ?_⟩) (⟨k0, k1, k2, k3, k4, k5, k6, k7, k8⟩) ?_
         rotate_left 1
         · intro u
           go_simp
           try with_reducible rfl
         simp only [Act.put, List.setIfInBounds_toArray, List.set_cons_zero, List.set_cons_succ])
      | (refine mv_free _ (Or.inr ⟨by rfl, rfl⟩) (⟨k0, k1, k2, k3, k4, k5, k6, k7, k8⟩) ?_
         simp only [Act.put, List.setIfInBounds_toArray, List.set_cons_zero, List.set_cons_succ])
  refine mv_step (fun K hK => ?_)
  go_simp
  refine (C6.out _).mono ?_
  rintro e w6 ⟨rfl, hb6⟩
  have hb6 := (hb5).trans (hb6.mono (by have := hb5.size; have := hz.out; show _ ≤ w5.heap.size; omega))
  clear hb5
  obtain ⟨k0, k1, k2, k3, k4, k5, k6, k7, k8⟩ := hcs.out _ hb6
  go_wp2_with fail
  refine hK.out _ _ _ (fun u hu => hu) (⟨k0, k1, k2, k3, k4, k5, k6, k7, k8⟩) ?_
  clear hK K
  iterate 2
    first
      | (refine mv_free ?_ (Or.inl ⟨by rfl, ?_⟩) (⟨k0, k1, k2, k3, k4, k5, k6, k7, k8⟩) ?_
         rotate_left 1
         · intro u
           go_simp
           try with_reducible rfl
         simp only [Act.put, List.setIfInBounds_toArray, List.set_cons_zero, List.set_cons_succ])
      | (refine mv_free _ (Or.inr ⟨by rfl, rfl⟩) (⟨k0, k1, k2, k3, k4, k5, k6, k7, k8⟩) ?_
         simp only [Act.put, List.setIfInBounds_toArray, List.set_cons_zero, List.set_cons_succ])
  refine mv_done ?_
  go_wp2
  go_ret
  exact ⟨rfl, hb0.out.trans (hb6.mono (by omega))⟩
set_option maxRecDepth 100000 in
set_option maxHeartbeats 8000000 in
theorem asks9 (p to c h r : Int) (hp : p < 0 ∨ 5 < p) (w : World) : Calls Try.prog 10 #[.int .i64 p, .agg #[.int .i64 c, .int .i64 h, .int .i64 r], .int .i64 to] w fun e w' => e = .returned (.bool true) ∧ Below w.heap.size w w' := by
  have C1 := fun u => pasked p c h r u
  have C2 := fun u => rasked p c h r u
  have C3 := fun u => psoon p to u
  have C4 := fun u => rsoon p to u
  have C5 := Lib.hid (fun u => pname9 p hp u)
  have C6 := Lib.hid (fun u => lives50 u)
  generalize phA p c h r = k at *
  generalize phQ p to = Q at *
  replace C1 := Lib.hid C1
  replace C2 := Lib.hid C2
  replace C3 := Lib.hid C3
  replace C4 := Lib.hid C4
  obtain ⟨V, eV, hb0, hz, hcs⟩ := pas_box w c h r
  replace hb0 := Lib.hid hb0
  replace hz := Lib.hid hz
  replace hcs := Lib.hid hcs
  replace eV := Lib.hid eV
  rcases hp with hp | hp
  all_goals
    go_enter Try.func10, Try.ntmps10
    go_wp2_with fail
    rw [← eV.out]
    obtain ⟨k0, k1, k2, k3, k4, k5, k6, k7, k8⟩ := hcs.out _ (Below.refl _ _)
    refine region_moves (fun u => u.cell? ⟨w.heap.size, 0, none⟩ = some (.int .i64 c) ∧ u.cell? ⟨w.heap.size, 1, none⟩ = some (.int .i64 h) ∧ u.cell? ⟨w.heap.size, 2, none⟩ = some (.int .i64 r) ∧ u.cell? ⟨w.heap.size + 1, 0, none⟩ = some (.string ⟨#[103, 114, 111, 117, 110, 100]⟩) ∧ u.cell? ⟨w.heap.size + 1, 1, none⟩ = some (.string ⟨#[116, 97, 107, 101, 111, 102, 102]⟩) ∧ u.cell? ⟨w.heap.size + 1, 2, none⟩ = some (.string ⟨#[99, 108, 105, 109, 98]⟩) ∧ u.cell? ⟨w.heap.size + 1, 3, none⟩ = some (.string ⟨#[99, 114, 117, 105, 115, 101]⟩) ∧ u.cell? ⟨w.heap.size + 1, 4, none⟩ = some (.string ⟨#[100, 101, 115, 99, 101, 110, 116]⟩) ∧ u.cell? ⟨w.heap.size + 1, 5, none⟩ = some (.string ⟨#[108, 97, 110, 100, 105, 110, 103]⟩)) [] [(.free, 0), (.take, 1), (.free, 3), (.free, 4), (.take, 5), (.free, 6), (.take, 7), (.free, 8), (.take, 9), (.step, 2), (.step, 10), (.free, 11), (.free, 12), (.free, 13), (.free, 14), (.free, 16), (.free, 17), (.step, 15), (.step, 18), (.free, 19), (.free, 20), (.free, 21), (.free, 22), (.free, 24), (.step, 23), (.free, 25), (.free, 26), (.free, 27), (.step, 28), (.free, 29), (.free, 30)] _ (by kernel_rfl) (by kernel_rfl) (by kernel_rfl) (by kernel_rfl) (by decide) rfl (fun _ _ _ _ _ h => h) ?_
    simp only [List.filterMap_cons, List.filterMap_nil, List.getElem?_toArray, List.getElem?_cons_zero, List.getElem?_cons_succ, Option.map_some]
    iterate 1
      first
        | (refine mv_free ?_ (Or.inl ⟨by rfl, ?_⟩) (⟨k0, k1, k2, k3, k4, k5, k6, k7, k8⟩) ?_
           rotate_left 1
           · intro u
             go_simp
             try with_reducible rfl
           simp only [Act.put, List.setIfInBounds_toArray, List.set_cons_zero, List.set_cons_succ])
        | (refine mv_free _ (Or.inr ⟨by rfl, rfl⟩) (⟨k0, k1, k2, k3, k4, k5, k6, k7, k8⟩) ?_
           simp only [Act.put, List.setIfInBounds_toArray, List.set_cons_zero, List.set_cons_succ])
    iterate 1
      first
        | (refine mv_take ?_ (Or.inl ⟨by rfl, ?_⟩) (⟨k0, k1, k2, k3, k4, k5, k6, k7, k8⟩) ?_
           rotate_left 1
           · intro u hu
             (try dsimp only at hu)
             go_simp
             try with_reducible rfl
           simp only [Act.put, List.setIfInBounds_toArray, List.set_cons_zero, List.set_cons_succ])
        | (refine mv_take _ (Or.inr ⟨by rfl, rfl⟩) (⟨k0, k1, k2, k3, k4, k5, k6, k7, k8⟩) ?_
           simp only [Act.put, List.setIfInBounds_toArray, List.set_cons_zero, List.set_cons_succ])
    iterate 2
      first
        | (refine mv_free ?_ (Or.inl ⟨by rfl, ?_⟩) (⟨k0, k1, k2, k3, k4, k5, k6, k7, k8⟩) ?_
           rotate_left 1
           · intro u
             go_simp
             try with_reducible rfl
           simp only [Act.put, List.setIfInBounds_toArray, List.set_cons_zero, List.set_cons_succ])
        | (refine mv_free _ (Or.inr ⟨by rfl, rfl⟩) (⟨k0, k1, k2, k3, k4, k5, k6, k7, k8⟩) ?_
           simp only [Act.put, List.setIfInBounds_toArray, List.set_cons_zero, List.set_cons_succ])
    iterate 1
      first
        | (refine mv_take ?_ (Or.inl ⟨by rfl, ?_⟩) (⟨k0, k1, k2, k3, k4, k5, k6, k7, k8⟩) ?_
           rotate_left 1
           · intro u hu
             (try dsimp only at hu)
             go_simp
             try with_reducible rfl
           simp only [Act.put, List.setIfInBounds_toArray, List.set_cons_zero, List.set_cons_succ])
        | (refine mv_take _ (Or.inr ⟨by rfl, rfl⟩) (⟨k0, k1, k2, k3, k4, k5, k6, k7, k8⟩) ?_
           simp only [Act.put, List.setIfInBounds_toArray, List.set_cons_zero, List.set_cons_succ])
    iterate 1
      first
        | (refine mv_free ?_ (Or.inl ⟨by rfl, ?_⟩) (⟨k0, k1, k2, k3, k4, k5, k6, k7, k8⟩) ?_
           rotate_left 1
           · intro u
             go_simp
             try with_reducible rfl
           simp only [Act.put, List.setIfInBounds_toArray, List.set_cons_zero, List.set_cons_succ])
        | (refine mv_free _ (Or.inr ⟨by rfl, rfl⟩) (⟨k0, k1, k2, k3, k4, k5, k6, k7, k8⟩) ?_
           simp only [Act.put, List.setIfInBounds_toArray, List.set_cons_zero, List.set_cons_succ])
    iterate 1
      first
        | (refine mv_take ?_ (Or.inl ⟨by rfl, ?_⟩) (⟨k0, k1, k2, k3, k4, k5, k6, k7, k8⟩) ?_
           rotate_left 1
           · intro u hu
             (try dsimp only at hu)
             go_simp
             try with_reducible rfl
           simp only [Act.put, List.setIfInBounds_toArray, List.set_cons_zero, List.set_cons_succ])
        | (refine mv_take _ (Or.inr ⟨by rfl, rfl⟩) (⟨k0, k1, k2, k3, k4, k5, k6, k7, k8⟩) ?_
           simp only [Act.put, List.setIfInBounds_toArray, List.set_cons_zero, List.set_cons_succ])
    iterate 1
      first
        | (refine mv_free ?_ (Or.inl ⟨by rfl, ?_⟩) (⟨k0, k1, k2, k3, k4, k5, k6, k7, k8⟩) ?_
           rotate_left 1
           · intro u
             go_simp
             try with_reducible rfl
           simp only [Act.put, List.setIfInBounds_toArray, List.set_cons_zero, List.set_cons_succ])
        | (refine mv_free _ (Or.inr ⟨by rfl, rfl⟩) (⟨k0, k1, k2, k3, k4, k5, k6, k7, k8⟩) ?_
           simp only [Act.put, List.setIfInBounds_toArray, List.set_cons_zero, List.set_cons_succ])
    iterate 1
      first
        | (refine mv_take ?_ (Or.inl ⟨by rfl, ?_⟩) (⟨k0, k1, k2, k3, k4, k5, k6, k7, k8⟩) ?_
           rotate_left 1
           · intro u hu
             (try dsimp only at hu)
             go_simp
             try with_reducible rfl
           simp only [Act.put, List.setIfInBounds_toArray, List.set_cons_zero, List.set_cons_succ])
        | (refine mv_take _ (Or.inr ⟨by rfl, rfl⟩) (⟨k0, k1, k2, k3, k4, k5, k6, k7, k8⟩) ?_
           simp only [Act.put, List.setIfInBounds_toArray, List.set_cons_zero, List.set_cons_succ])
    refine mv_step (fun K hK => ?_)
    go_simp
    refine (C1.out _).mono ?_
    rintro e w1 ⟨rfl, hb1⟩
    have hb1 := ((Below.refl (w.heap.size + 2) V).drew).trans (hb1.mono (by have := hz.out; show _ ≤ V.heap.size; omega))
    obtain ⟨k0, k1, k2, k3, k4, k5, k6, k7, k8⟩ := hcs.out _ hb1
    go_wp2_with fail
    refine hK.out _ _ _ (fun u hu => hu) (⟨k0, k1, k2, k3, k4, k5, k6, k7, k8⟩) ?_
    clear hK K
    refine mv_step (fun K hK => ?_)
    go_simp
    refine (C2.out _).mono ?_
    rintro e w' ⟨rfl, rfl⟩
    go_wp2_with fail
    refine hK.out _ _ _ (fun u hu => hu) (⟨k0, k1, k2, k3, k4, k5, k6, k7, k8⟩) ?_
    clear hK K
    iterate 6
      first
        | (refine mv_free ?_ (Or.inl ⟨by rfl, ?_⟩) (⟨k0, k1, k2, k3, k4, k5, k6, k7, k8⟩) ?_
           rotate_left 1
           · intro u
             go_simp
             try with_reducible rfl
           simp only [Act.put, List.setIfInBounds_toArray, List.set_cons_zero, List.set_cons_succ])
        | (refine mv_free _ (Or.inr ⟨by rfl, rfl⟩) (⟨k0, k1, k2, k3, k4, k5, k6, k7, k8⟩) ?_
           simp only [Act.put, List.setIfInBounds_toArray, List.set_cons_zero, List.set_cons_succ])
    refine mv_step (fun K hK => ?_)
    go_simp
    refine (C3.out _).mono ?_
    rintro e w' ⟨rfl, rfl⟩
    go_wp2_with fail
    refine hK.out _ _ _ (fun u hu => hu) (⟨k0, k1, k2, k3, k4, k5, k6, k7, k8⟩) ?_
    clear hK K
    refine mv_step (fun K hK => ?_)
    go_simp
    refine (C4.out _).mono ?_
    rintro e w' ⟨rfl, rfl⟩
    go_wp2_with fail
    refine hK.out _ _ _ (fun u hu => hu) (⟨k0, k1, k2, k3, k4, k5, k6, k7, k8⟩) ?_
    clear hK K
    iterate 5
      first
        | (refine mv_free ?_ (Or.inl ⟨by rfl, ?_⟩) (⟨k0, k1, k2, k3, k4, k5, k6, k7, k8⟩) ?_
           rotate_left 1
           · intro u
             go_simp
             try with_reducible rfl
           simp only [Act.put, List.setIfInBounds_toArray, List.set_cons_zero, List.set_cons_succ])
        | (refine mv_free _ (Or.inr ⟨by rfl, rfl⟩) (⟨k0, k1, k2, k3, k4, k5, k6, k7, k8⟩) ?_
           simp only [Act.put, List.setIfInBounds_toArray, List.set_cons_zero, List.set_cons_succ])
    refine mv_step (fun K hK => ?_)
    go_simp
    refine (C5.out _).mono ?_
    rintro e w5 ⟨rfl, hb5⟩
    have hb5 := (hb1).trans (hb5.mono (by have := hb1.size; have := hz.out; show _ ≤ w1.heap.size; omega))
    clear hb1
    obtain ⟨k0, k1, k2, k3, k4, k5, k6, k7, k8⟩ := hcs.out _ hb5
    go_wp2_with fail
    refine hK.out _ _ _ (fun u hu => hu) (⟨k0, k1, k2, k3, k4, k5, k6, k7, k8⟩) ?_
    clear hK K
    iterate 3
      first
        | (refine mv_free ?_ (Or.inl ⟨by rfl, ?_⟩) (⟨k0, k1, k2, k3, k4, k5, k6, k7, k8⟩) ?_
           rotate_left 1
           · intro u
             go_simp
             try with_reducible rfl
           simp only [Act.put, List.setIfInBounds_toArray, List.set_cons_zero, List.set_cons_succ])
        | (refine mv_free _ (Or.inr ⟨by rfl, rfl⟩) (⟨k0, k1, k2, k3, k4, k5, k6, k7, k8⟩) ?_
           simp only [Act.put, List.setIfInBounds_toArray, List.set_cons_zero, List.set_cons_succ])
    refine mv_step (fun K hK => ?_)
    go_simp
    refine (C6.out _).mono ?_
    rintro e w6 ⟨rfl, hb6⟩
    have hb6 := (hb5).trans (hb6.mono (by have := hb5.size; have := hz.out; show _ ≤ w5.heap.size; omega))
    clear hb5
    obtain ⟨k0, k1, k2, k3, k4, k5, k6, k7, k8⟩ := hcs.out _ hb6
    go_wp2_with fail
    refine hK.out _ _ _ (fun u hu => hu) (⟨k0, k1, k2, k3, k4, k5, k6, k7, k8⟩) ?_
    clear hK K
    iterate 2
      first
        | (refine mv_free ?_ (Or.inl ⟨by rfl, ?_⟩) (⟨k0, k1, k2, k3, k4, k5, k6, k7, k8⟩) ?_
           rotate_left 1
           · intro u
             go_simp
             try with_reducible rfl
           simp only [Act.put, List.setIfInBounds_toArray, List.set_cons_zero, List.set_cons_succ])
        | (refine mv_free _ (Or.inr ⟨by rfl, rfl⟩) (⟨k0, k1, k2, k3, k4, k5, k6, k7, k8⟩) ?_
           simp only [Act.put, List.setIfInBounds_toArray, List.set_cons_zero, List.set_cons_succ])
    refine mv_done ?_
    go_wp2
    go_ret
    exact ⟨rfl, hb0.out.trans (hb6.mono (by omega))⟩
theorem law_PhaseAsks (p c h r to : Int) (w : World) : Calls Try.prog 10 #[.int .i64 p, .agg #[.int .i64 c, .int .i64 h, .int .i64 r], .int .i64 to] w fun e w' => e = .returned (.bool true) ∧ Below w.heap.size w w' := by
  by_cases hp : p < 0 ∨ 5 < p
  · exact asks9 p to c h r hp w
  · rcases (show p = 0 ∨ p = 1 ∨ p = 2 ∨ p = 3 ∨ p = 4 ∨ p = 5 by omega) with rfl | rfl | rfl | rfl | rfl | rfl
    · exact asks0 to c h r w
    · exact asks1 to c h r w
    · exact asks2 to c h r w
    · exact asks3 to c h r w
    · exact asks4 to c h r w
    · exact asks5 to c h r w
theorem pnw_box (w : World) (c h r : Int) : ∃ V, V = (w.alloc (.cells #[.int .i64 c, .int .i64 h, .int .i64 r] 88)) ∧ Below w.heap.size w V ∧ V.heap.size = w.heap.size + 1 ∧ ∀ u, Below (w.heap.size + 1) V u → u.cell? ⟨w.heap.size, 0, none⟩ = some (.int .i64 c) ∧ u.cell? ⟨w.heap.size, 1, none⟩ = some (.int .i64 h) ∧ u.cell? ⟨w.heap.size, 2, none⟩ = some (.int .i64 r) :=
  ⟨_, rfl, (by repeat (first | exact Below.refl _ _ | assumption | apply Below.drew | apply below_drewN | (refine Below.alloc ?_ (by first | exact Nat.le_refl _ | omega | (simp <;> omega)) _) | (refine Below.setCell ?_ (by first | exact Nat.le_refl _ | omega | (simp <;> omega)) _))), by simp, fun u hu => ⟨(bc hu (by omega)).trans (by go_simp), (bc hu (by omega)).trans (by go_simp), (bc hu (by omega)).trans (by go_simp)⟩⟩
set_option maxRecDepth 100000 in
set_option maxHeartbeats 8000000 in
theorem law_PhaseNew (pt c h r : Int) (w : World) : Calls Try.prog 11 #[.int .i64 pt, .agg #[.int .i64 c, .int .i64 h, .int .i64 r]] w fun e w' => e = .returned (.bool true) ∧ Below w.heap.size w w' := by
  have EQ := fun u => teq6 0 0 0 0 0 0 u
  have LV := Lib.hid (fun u => lives50 u)
  have SN := Lib.hid (fun u => pstep_nil c h r u)
  obtain ⟨V, eV, hb0, hz, hcs⟩ := pnw_box w c h r
  replace hb0 := Lib.hid hb0
  replace hz := Lib.hid hz
  replace hcs := Lib.hid hcs
  replace eV := Lib.hid eV
  by_cases hp : pt < 1 ∨ 1000 < pt
  · have NW := Lib.hid (fun u => pnew_no pt hp u)
    have h2 : pt < 1 ∨ (1 ≤ pt ∧ 1000 < pt) := by omega
    clear hp
    rcases h2 with h2 | ⟨h2, h3⟩
    all_goals
      go_enter Try.func11, Try.ntmps11
      go_wp2_with fail
      rw [← eV.out]
      refine (NW.out _).mono ?_
      rintro e w1 ⟨rfl, rfl⟩
      obtain ⟨k0, k1, k2⟩ := hcs.out _ (Below.refl _ _)
      go_wp2_with (first | (go_at_call 52; refine (preset_nil _).mono ?_; rintro e w1 ⟨rfl, rfl⟩) | (go_at_call 53; refine (phighest_nil _).mono ?_; rintro e w1 ⟨rfl, rfl⟩) | fail)
      refine (SN.out _).mono ?_
      rintro e w1 ⟨rfl, hb1⟩
      have g1 := Lib.hid (hb0.out.trans (hb1.mono (by have := hz.out; omega)))
      clear hb1
      go_wp2_with (go_at_call 55; refine (pphase_nil _).mono ?_; rintro e w1 ⟨rfl, rfl⟩)
      refine (ptimes_nil _).mono ?_
      rintro e w2 ⟨rfl, hb2⟩
      have g2 := Lib.hid (g1.out.trans (hb2.mono g1.out.size))
      clear hb2
      go_wp2_with (go_at_call 57; refine (plegs_nil _).mono ?_; rintro e w1 ⟨rfl, rfl⟩)
      refine (LV.out _).mono ?_
      rintro e w3 ⟨rfl, hb3⟩
      have g3 := Lib.hid (g2.out.trans (hb3.mono g2.out.size))
      clear hb3
      go_wp2
      go_ret
      exact ⟨rfl, g3.out⟩
  · have h2 : 1 ≤ pt := by omega
    have h3 : pt ≤ 1000 := by omega
    have NW := Lib.hid (fun u => pnew_ok pt h2 h3 u)
    clear hp
    go_enter Try.func11, Try.ntmps11
    go_wp2_with fail
    rw [← eV.out]
    refine (NW.out _).mono ?_
    rintro e w1 ⟨b, hb, rfl, k1, hb1⟩
    have g0 := Lib.hid (hb0.out.trans (hb1.mono (by have := hz.out; omega)))
    obtain ⟨k5, k6, k7⟩ := hcs.out _ ((Below.refl _ _).trans (hb1.mono (Nat.le_of_eq hz.out.symm)))
    have K1 := Lib.hid k1
    have HB := Lib.hid hb
    clear hb1 k1 hb
    go_wp2_with (first | (go_at_call 52; refine (preset_nil _).mono ?_; rintro e w1 ⟨rfl, rfl⟩) | (go_at_call 53; refine (phighest_nil _).mono ?_; rintro e w1 ⟨rfl, rfl⟩) | fail)
    refine (SN.out _).mono ?_
    rintro e w2 ⟨rfl, hb1⟩
    have g1 := Lib.hid (g0.out.trans (hb1.mono g0.out.size))
    have K2 := Lib.hid (K1.out.bel hb1)
    clear hb1 K1 g0 k5 k6 k7
    go_wp2_with (go_at_call 55; refine (pphase_nil _).mono ?_; rintro e w1 ⟨rfl, rfl⟩)
    refine (ptimes_nil _).mono ?_
    rintro e w3 ⟨rfl, hb2⟩
    have g2 := Lib.hid (g1.out.trans (hb2.mono g1.out.size))
    have K3 := Lib.hid (K2.out.bel hb2)
    clear hb2 K2 g1
    go_wp2_with (go_at_call 57; refine (plegs_nil _).mono ?_; rintro e w1 ⟨rfl, rfl⟩)
    refine (phighest b _ K3.out).mono ?_
    rintro e w4 ⟨rfl, hb2⟩
    have g3 := Lib.hid (g2.out.trans (hb2.mono g2.out.size))
    have K4 := Lib.hid (K3.out.bel hb2)
    clear hb2 K3 g2
    go_wp2_with fail
    refine (pphase b _ K4.out).mono ?_
    rintro e w' ⟨rfl, rfl⟩
    go_wp2_with fail
    refine (show Calls Try.prog 56 #[.pointer (some ⟨b, 0, none⟩)] w4 fun e w' => e = .returned (.agg #[.int .i64 0, .int .i64 0, .int .i64 0, .int .i64 0, .int .i64 0, .int .i64 0]) ∧ Below w4.heap.size w4 w' from ptimes b _ K4.out).mono ?_
    rintro e w5 ⟨rfl, hb2⟩
    have g4 := Lib.hid (g3.out.trans (hb2.mono g3.out.size))
    have K5 := Lib.hid (K4.out.bel hb2)
    clear hb2 K4 g3
    go_wp2_with fail
    refine (plegs b _ K5.out).mono ?_
    rintro e w' ⟨rfl, rfl⟩
    go_wp2_with fail
    refine (LV.out _).mono ?_
    rintro e w6 ⟨rfl, hb3⟩
    have g5 := Lib.hid (g4.out.trans (hb3.mono g4.out.size))
    clear hb3
    go_wp2
    go_ret
    exact ⟨rfl, g5.out⟩
end Go.Proofs.Ytlhejkaedgelnaa
