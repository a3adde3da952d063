/- Package lift: impact pressures; the chapter's example; the law LiftDenser, walked. -/
import Derived.Test.YtbhoallcoblcoaaMach7
namespace Go.Proofs.Ytbhoallcoblcoaa
open Go.ChangeShapes Go.WideShapes Go.ChangeAt Go.RowKit
set_option linter.unusedVariables false
set_option linter.unusedSimpArgs false

def liI (q p : Int) : Int := q + fitV q (10 * q) (28 * p)
theorem liI_more {q0 q1 p0 p1 : Int} (a : 0 ≤ q0) (b : q0 ≤ q1) (c : 1 ≤ p0) (d : p0 ≤ p1) : liI q0 p0 ≤ liI q1 p0 ∧ liI q0 p1 ≤ liI q0 p0 ∧ q0 ≤ liI q0 p1 := by
  have m := mul_mn a b (show 0 ≤ 10 * q0 by omega) (show 10 * q0 ≤ 10 * q1 by omega)
  have n := Int.mul_nonneg a (show 0 ≤ 10 * q0 by omega)
  unfold liI fitV
  rw [wq_ps (by omega), wq_ps (by omega), wq_ps (by omega)]
  generalize q0 * (10 * q0) = M at *
  generalize q1 * (10 * q1) = N at *
  have x : M / (28 * p0) ≤ N / (28 * p0) := Int.ediv_le_ediv (by omega) m
  have z : 0 ≤ M / (28 * p1) := Int.ediv_nonneg n (by omega)
  have y : M / (28 * p1) ≤ M / (28 * p0) := by
    apply Int.le_ediv_of_mul_le (by omega)
    have e3 := Int.ediv_mul_le M (show 28 * p1 ≠ 0 by omega)
    have e5 := Int.mul_le_mul_of_nonneg_left (show 28 * p0 ≤ 28 * p1 by omega) z
    omega
  generalize M / (28 * p0) = A at *
  generalize N / (28 * p0) = B at *
  generalize M / (28 * p1) = D at *
  omega
theorem fitV_bd (a b c : Int) : -1099511627775 ≤ fitV a b c ∧ fitV a b c ≤ 1099511627775 := by unfold fitV; omega

set_option maxHeartbeats 2000000 in
theorem limp_any (q p : Int) (w : World) (h0 : 0 ≤ q) (h1 : q ≤ 4294967296) (g0 : 1 ≤ p) (g1 : p ≤ 4294967296) : Calls Try.prog 44 #[.int .i64 q, .int .i64 p] w fun e w' => e = .returned (.int .i64 (liI q p)) ∧ Below w.heap.size w w' := by
  have FT := Lib.hid (fun u => fit_any q (10 * q) (28 * p) u (by omega) (by omega) (by omega) (by omega) (by omega) (by omega))
  have fb := fitV_bd q (10 * q) (28 * p)
  have HV := Lib.hid (show liI q p = q + fitV q (10 * q) (28 * p) from rfl)
  generalize fitV q (10 * q) (28 * p) = F at *
  generalize liI q p = R at *
  go_enter Try.func44, Try.ntmps44
  go_wp2_with fail
  all_goals first | (exfalso; omega) | skip
  refine (FT.out _).mono ?_
  rintro e w1 ⟨rfl, hb1⟩
  go_wp2
  go_ret
  exact ⟨ret_int HV.out.symm, hb1⟩

set_option maxHeartbeats 1000000 in
theorem lbet_yes (n m : Int) (w : World) (h0 : 1 ≤ n) (h1 : n ≤ m) : Calls Try.prog 77 #[.int .i64 n, .int .i64 m] w fun e w' => e = .returned (.bool true) ∧ w = w' := by
  go_enter Try.func77, Try.ntmps77
  go_wp2
  go_ret
  exact ⟨rfl, rfl⟩

theorem wing_box (w : World) (ax ay : Option Addr) (cx cy : Nat) : ∃ V, V = w.alloc (.cells #[.slice ax 2 cx, .slice ay 2 cy, .int .i64 10000, .int .i64 1] 60) ∧ Below w.heap.size w V ∧ V.heap.size = w.heap.size + 1 ∧ ∀ u, Below (w.heap.size + 1) V u → u.cell? ⟨w.heap.size, 0, none⟩ = some (.slice ax 2 cx) ∧ u.cell? ⟨w.heap.size, 1, none⟩ = some (.slice ay 2 cy) ∧ u.cell? ⟨w.heap.size, 2, none⟩ = some (.int .i64 10000) ∧ u.cell? ⟨w.heap.size, 3, none⟩ = some (.int .i64 1) :=
  ⟨_, rfl, (by repeat (first | exact Below.refl _ _ | assumption | apply Below.drew | apply below_drewN | (refine Below.alloc ?_ (by first | exact Nat.le_refl _ | omega | (simp <;> omega)) _) | (refine Below.setCell ?_ (by first | exact Nat.le_refl _ | omega | (simp <;> omega)) _))), by simp, fun u hu => ⟨(bc hu (by omega)).trans (by go_simp), (bc hu (by omega)).trans (by go_simp), (bc hu (by omega)).trans (by go_simp), (bc hu (by omega)).trans (by go_simp)⟩⟩

set_option maxRecDepth 100000 in
set_option maxHeartbeats 4000000 in
theorem lright_one (ax ay : Option Addr) (cx cy : Nat) (w : World) (hx : RowIs .i64 w ax [0, 1]) (hy : RowIs .i64 w ay [10000, 10000]) :
    Calls Try.prog 90 #[.agg #[.slice ax 2 cx, .slice ay 2 cy, .int .i64 10000, .int .i64 1]] w fun e w' => e = .returned (.bool true) ∧ Below w.heap.size w w' := by
  have RT := fun u (h : Below w.heap.size w u) => cright_any ax ay cx cy [0, 1] [10000, 10000] u (hx.below h) (hy.below h) (by decide) (by decide)
  rw [show rgtB [0, 1] [10000, 10000] = true by decide +kernel] at RT
  replace RT : ∀ u, Below w.heap.size w u → Calls Try.prog 19 #[.agg #[.slice ax 2 cx, .slice ay 2 cy]] u fun e w' => e = .returned (.bool true) ∧ Below u.heap.size u w' := RT
  replace RT := Lib.hid RT
  obtain ⟨V, eV, hb0, hz, hcs⟩ := wing_box w ax ay cx cy
  replace hb0 := Lib.hid hb0
  replace hz := Lib.hid hz
  replace hcs := Lib.hid hcs
  replace eV := Lib.hid eV
  clear hx hy
  go_enter Try.func90, Try.ntmps90
  go_wp2_with fail
  rw [← eV.out]
  obtain ⟨k0, k1, k2, k3⟩ := hcs.out _ (Below.refl _ _)
  go_wp2_with fail
  refine (RT.out _ hb0.out).mono ?_
  rintro e w1 ⟨rfl, hb1⟩
  have hW := Lib.hid (hb0.out.trans (hb1.mono hb0.out.size))
  have hb1 := (Below.refl (w.heap.size + 1) V).trans (hb1.mono (Nat.le_of_eq hz.out.symm))
  obtain ⟨k0, k1, k2, k3⟩ := hcs.out _ hb1
  go_wp2_with fail
  refine (lbet_yes _ _ _ (by omega) (by omega)).mono ?_
  rintro e w2 ⟨rfl, rfl⟩
  go_wp2_with fail
  refine (lbet_yes _ _ _ (by omega) (by omega)).mono ?_
  rintro e w2 ⟨rfl, rfl⟩
  go_wp2
  go_ret
  exact ⟨rfl, hW.out⟩

theorem k_one : CrK [0, 1] 0 1 := ⟨by decide, fun t ht => by obtain rfl : t = 0 := by omega
                                                             decide, fun t a b => by
  have b' : t < 2 := b
  obtain rfl : t = 1 := by omega
  decide⟩
set_option maxRecDepth 100000 in
set_option maxHeartbeats 4000000 in
theorem lcoef_one (ax ay : Option Addr) (cx cy : Nat) (w : World) (hx : RowIs .i64 w ax [0, 1]) (hy : RowIs .i64 w ay [10000, 10000]) :
    Calls Try.prog 76 #[.agg #[.slice ax 2 cx, .slice ay 2 cy, .int .i64 10000, .int .i64 1], .int .i64 0] w fun e w' => e = .returned (.tuple #[.int .i64 10000, .bool true]) ∧ Below w.heap.size w w' := by
  have RT := Lib.hid (fun u (h : Below w.heap.size w u) => lright_one ax ay cx cy u (hx.below h) (hy.below h))
  have AT := fun u (h : Below w.heap.size w u) => cat5_any ax ay cx cy [0, 1] [10000, 10000] 0 1 u (hx.below h) (hy.below h) (by decide) (by decide) (fun _ => k_one)
  rw [show rgtB [0, 1] [10000, 10000] = true by decide +kernel, if_pos rfl, show crV [0, 1] [10000, 10000] 0 1 = 10000 by decide +kernel] at AT
  replace AT : ∀ u, Below w.heap.size w u → Calls Try.prog 17 #[.agg #[.slice ax 2 cx, .slice ay 2 cy], .int .i64 0] u fun e w' => e = .returned (.tuple #[.int .i64 10000, .bool true]) ∧ Below u.heap.size u w' := AT
  replace AT := Lib.hid AT
  obtain ⟨V, eV, hb0, hz, hcs⟩ := wing_box w ax ay cx cy
  replace hb0 := Lib.hid hb0
  replace hz := Lib.hid hz
  replace hcs := Lib.hid hcs
  replace eV := Lib.hid eV
  clear hx hy
  go_enter Try.func76, Try.ntmps76
  go_wp2_with fail
  rw [← eV.out]
  obtain ⟨k0, k1, k2, k3⟩ := hcs.out _ (Below.refl _ _)
  go_wp2_with fail
  refine (RT.out _ hb0.out).mono ?_
  rintro e w1 ⟨rfl, hb1⟩
  have hW := Lib.hid (hb0.out.trans (hb1.mono hb0.out.size))
  have hb1 := (Below.refl (w.heap.size + 1) V).trans (hb1.mono (Nat.le_of_eq hz.out.symm))
  obtain ⟨k0, k1, k2, k3⟩ := hcs.out _ hb1
  go_wp2_with fail
  refine (AT.out _ hW.out).mono ?_
  rintro e w2 ⟨rfl, hb2⟩
  go_wp2
  go_ret2
  exact ⟨rfl, hW.out.trans (hb2.mono hW.out.size)⟩

set_option maxRecDepth 100000 in
set_option maxHeartbeats 4000000 in
theorem ldyn_one (ax ay : Option Addr) (cx cy : Nat) (w : World) :
    Calls Try.prog 78 #[.agg #[.slice ax 2 cx, .slice ay 2 cy, .int .i64 10000, .int .i64 1, .int .i64 10000], .int .i64 1000, .int .i64 100] w fun e w' => e = .returned (.tuple #[.int .i64 6400, .int .i64 0]) ∧ Below w.heap.size w w' := by
  have FL := fun u => floor_any 100000 6400000 100000000 u (by omega) (by omega) (by omega) (by omega) (by omega) (by omega)
  rw [show flV 100000 6400000 100000000 = 6400 by decide +kernel, show flB 100000 6400000 100000000 = true by decide +kernel] at FL
  replace FL := Lib.hid FL
  go_enter Try.func78, Try.ntmps78
  go_wp2_with fail
  refine (FL.out _).mono ?_
  rintro e w1 ⟨rfl, hb1⟩
  go_wp2
  go_ret2
  exact ⟨rfl, ((Below.refl w.heap.size w).alloc (Nat.le_refl _) _).trans (hb1.mono (by simp))⟩
set_option maxRecDepth 100000 in
set_option maxHeartbeats 4000000 in
theorem ldynamic_one (ax ay : Option Addr) (cx cy : Nat) (w : World) (hx : RowIs .i64 w ax [0, 1]) (hy : RowIs .i64 w ay [10000, 10000]) :
    Calls Try.prog 68 #[.agg #[.slice ax 2 cx, .slice ay 2 cy, .int .i64 10000, .int .i64 1], .int .i64 0, .int .i64 1000, .int .i64 100] w fun e w' => e = .returned (.tuple #[.int .i64 6400, .int .i64 0]) ∧ Below w.heap.size w w' := by
  have CF := Lib.hid (fun u (h : Below w.heap.size w u) => lcoef_one ax ay cx cy u (hx.below h) (hy.below h))
  have DY := Lib.hid (fun u => ldyn_one ax ay cx cy u)
  obtain ⟨V, eV, hb0, hz, hcs⟩ := wing_box w ax ay cx cy
  replace hb0 := Lib.hid hb0
  replace hz := Lib.hid hz
  replace hcs := Lib.hid hcs
  replace eV := Lib.hid eV
  clear hx hy
  go_enter Try.func68, Try.ntmps68
  go_wp2_with fail
  rw [← eV.out]
  obtain ⟨k0, k1, k2, k3⟩ := hcs.out _ (Below.refl _ _)
  go_wp2_with fail
  refine (CF.out _ hb0.out).mono ?_
  rintro e w1 ⟨rfl, hb1⟩
  have hW := Lib.hid (hb0.out.trans (hb1.mono hb0.out.size))
  have hb1 := (Below.refl (w.heap.size + 1) V).trans (hb1.mono (Nat.le_of_eq hz.out.symm))
  obtain ⟨k0, k1, k2, k3⟩ := hcs.out _ hb1
  go_wp2_with fail
  refine (lbet_yes _ _ _ (by omega) (by omega)).mono ?_
  rintro e w2 ⟨rfl, rfl⟩
  go_wp2_with fail
  refine (lbet_yes _ _ _ (by omega) (by omega)).mono ?_
  rintro e w2 ⟨rfl, rfl⟩
  go_wp2_with fail
  refine (DY.out _).mono ?_
  rintro e w3 ⟨rfl, hb3⟩
  go_wp2
  go_ret2
  exact ⟨rfl, hW.out.trans (hb3.mono hW.out.size)⟩

theorem row_two {W : World} {b : Nat} {p q : Int} (hb : b < W.heap.size) (h0 : W.cell? ⟨b, 0, none⟩ = some (.int .i64 p)) (h1 : W.cell? ⟨b, 1, none⟩ = some (.int .i64 q)) : RowIs .i64 W (some ⟨b, 0, none⟩) [p, q] :=
  .inr ⟨b, 0, rfl, hb, fun i hi => by
    rcases i with _ | _ | i
    · exact h0
    · exact h1
    · have h2 : i + 1 + 1 < 2 := hi
      omega⟩
set_option maxRecDepth 100000 in
set_option maxHeartbeats 4000000 in
theorem lives18 (w : World) : Calls Try.prog 43 #[] w fun e w' => e = .returned (.bool true) ∧ Below w.heap.size w w' := by
  have DY := Lib.hid (fun ax ay cx cy u hx hy => ldynamic_one ax ay cx cy u hx hy)
  go_enter Try.func43, Try.ntmps43
  go_wp2_with fail
  refine (DY.out _ _ _ _ _ (row_two (by simp; omega) (by go_simp) (by go_simp)) (row_two (by simp) (by go_simp) (by go_simp))).mono ?_
  rintro e w1 ⟨rfl, hb1⟩
  go_wp2
  go_ret
  exact ⟨rfl, ((((Below.refl w.heap.size w).alloc (Nat.le_refl _) _).alloc (by simp) _).alloc (by simp; try omega) _).trans (hb1.mono (by simp; try omega))⟩

set_option maxRecDepth 100000 in
set_option maxHeartbeats 8000000 in
theorem law_LiftDenser (x0 x1 y0 y1 : Int) (w : World) :
    Calls Try.prog 14 #[.agg #[.int .i64 x0, .int .i64 x1], .agg #[.int .i64 y0, .int .i64 y1]] w fun e w' => e = .returned (.bool true) ∧ Below w.heap.size w w' := by
  obtain ⟨V, eV, hb0, hz, hcs⟩ := two_box w x0 x1 y0 y1
  replace hb0 := Lib.hid hb0
  replace hz := Lib.hid hz
  replace hcs := Lib.hid hcs
  replace eV := Lib.hid eV
  by_cases hin : x0 ≤ x1 ∧ y0 ≤ y1 ∧ 0 ≤ x0 ∧ 1 ≤ y0 ∧ x1 ≤ 4294967296 ∧ y1 ≤ 4294967296
  · obtain ⟨i1, i2, i3, i4, i5, i6⟩ := hin
    have A0 := Lib.hid (fun u => limp_any x0 y0 u i3 (by omega) i4 (by omega))
    have A1 := Lib.hid (fun u => limp_any x1 y0 u (by omega) i5 i4 (by omega))
    have A2 := Lib.hid (fun u => limp_any x0 y1 u i3 (by omega) (by omega) i6)
    obtain ⟨g1, g2, g3⟩ := liI_more i3 i1 i4 i2
    generalize liI x0 y0 = p at *
    generalize liI x1 y0 = q at *
    generalize liI x0 y1 = r at *
    have d1 : decide (p ≤ q) = true := decide_eq_true g1
    have d2 : decide (r ≤ p) = true := decide_eq_true g2
    have d3 : decide (x0 ≤ r) = true := decide_eq_true g3
    go_enter Try.func14, Try.ntmps14
    go_wp2_with fail
    rw [← eV.out]
    obtain ⟨k0, k1, k2, k3⟩ := hcs.out _ (Below.refl _ _)
    go_wp2_with fail
    refine (A0.out _).mono ?_
    rintro e w1 ⟨rfl, hb1⟩
    have hb1 := (Below.refl (w.heap.size + 2) V).trans (hb1.mono (Nat.le_of_eq hz.out.symm))
    obtain ⟨k0, k1, k2, k3⟩ := hcs.out _ hb1
    go_wp2_with fail
    refine region_moves (fun u => u.cell? ⟨w.heap.size, 0, none⟩ = some (.int .i64 x0) ∧ u.cell? ⟨w.heap.size, 1, none⟩ = some (.int .i64 x1) ∧ u.cell? ⟨w.heap.size + 1, 0, none⟩ = some (.int .i64 y0) ∧ u.cell? ⟨w.heap.size + 1, 1, none⟩ = some (.int .i64 y1)) [] [(.free, 0), (.free, 1), (.take, 2), (.free, 3), (.take, 4), (.step, 5), (.free, 6), (.free, 7), (.free, 8), (.free, 9), (.take, 10), (.free, 11), (.take, 12), (.step, 13), (.free, 14), (.free, 15), (.free, 16), (.free, 17), (.take, 18), (.free, 19), (.take, 20), (.free, 22), (.take, 23), (.step, 21), (.free, 24), (.free, 25), (.free, 26), (.step, 27), (.free, 28), (.free, 29)] _ (by kernel_rfl) (by kernel_rfl) (by kernel_rfl) (by kernel_rfl) (by decide) rfl (fun _ _ _ _ _ h => h) ?_
    simp only [List.filterMap_cons, List.filterMap_nil, List.getElem?_toArray, List.getElem?_cons_zero, List.getElem?_cons_succ, Option.map_some]
    iterate 2
      first
        | (refine mv_free ?_ (Or.inl ⟨by rfl, ?_⟩) (⟨k0, k1, k2, k3⟩) ?_
           rotate_left 1
           · intro u
             go_simp
             try simp only [d1]
             try simp only [d2]
             try simp only [d3]
             try with_reducible rfl
           simp only [Act.put, List.setIfInBounds_toArray, List.set_cons_zero, List.set_cons_succ])
        | (refine mv_free _ (Or.inr ⟨by rfl, rfl⟩) (⟨k0, k1, k2, k3⟩) ?_
           simp only [Act.put, List.setIfInBounds_toArray, List.set_cons_zero, List.set_cons_succ])
    iterate 1
      first
        | (refine mv_take ?_ (Or.inl ⟨by rfl, ?_⟩) (⟨k0, k1, k2, k3⟩) ?_
           rotate_left 1
           · intro u hu
             (try dsimp only at hu)
             go_simp
             try with_reducible rfl
           simp only [Act.put, List.setIfInBounds_toArray, List.set_cons_zero, List.set_cons_succ])
        | (refine mv_take _ (Or.inr ⟨by rfl, rfl⟩) (⟨k0, k1, k2, k3⟩) ?_
           simp only [Act.put, List.setIfInBounds_toArray, List.set_cons_zero, List.set_cons_succ])
    iterate 1
      first
        | (refine mv_free ?_ (Or.inl ⟨by rfl, ?_⟩) (⟨k0, k1, k2, k3⟩) ?_
           rotate_left 1
           · intro u
             go_simp
             try simp only [d1]
             try simp only [d2]
             try simp only [d3]
             try with_reducible rfl
           simp only [Act.put, List.setIfInBounds_toArray, List.set_cons_zero, List.set_cons_succ])
        | (refine mv_free _ (Or.inr ⟨by rfl, rfl⟩) (⟨k0, k1, k2, k3⟩) ?_
           simp only [Act.put, List.setIfInBounds_toArray, List.set_cons_zero, List.set_cons_succ])
    iterate 1
      first
        | (refine mv_take ?_ (Or.inl ⟨by rfl, ?_⟩) (⟨k0, k1, k2, k3⟩) ?_
           rotate_left 1
           · intro u hu
             (try dsimp only at hu)
             go_simp
             try with_reducible rfl
           simp only [Act.put, List.setIfInBounds_toArray, List.set_cons_zero, List.set_cons_succ])
        | (refine mv_take _ (Or.inr ⟨by rfl, rfl⟩) (⟨k0, k1, k2, k3⟩) ?_
           simp only [Act.put, List.setIfInBounds_toArray, List.set_cons_zero, List.set_cons_succ])
    refine mv_step (fun K hK => ?_)
    go_simp
    refine (A1.out _).mono ?_
    rintro e w2 ⟨rfl, hb2⟩
    have hb2 := hb1.drew.trans (hb2.mono (by have := hb1.size; have := hz.out; show _ ≤ w1.heap.size; omega))
    clear hb1
    obtain ⟨k0, k1, k2, k3⟩ := hcs.out _ hb2
    go_wp2_with fail
    refine hK.out _ _ _ (fun u hu => hu) (⟨k0, k1, k2, k3⟩) ?_
    clear hK K
    iterate 4
      first
        | (refine mv_free ?_ (Or.inl ⟨by rfl, ?_⟩) (⟨k0, k1, k2, k3⟩) ?_
           rotate_left 1
           · intro u
             go_simp
             try simp only [d1]
             try simp only [d2]
             try simp only [d3]
             try with_reducible rfl
           simp only [Act.put, List.setIfInBounds_toArray, List.set_cons_zero, List.set_cons_succ])
        | (refine mv_free _ (Or.inr ⟨by rfl, rfl⟩) (⟨k0, k1, k2, k3⟩) ?_
           simp only [Act.put, List.setIfInBounds_toArray, List.set_cons_zero, List.set_cons_succ])
    iterate 1
      first
        | (refine mv_take ?_ (Or.inl ⟨by rfl, ?_⟩) (⟨k0, k1, k2, k3⟩) ?_
           rotate_left 1
           · intro u hu
             (try dsimp only at hu)
             go_simp
             try with_reducible rfl
           simp only [Act.put, List.setIfInBounds_toArray, List.set_cons_zero, List.set_cons_succ])
        | (refine mv_take _ (Or.inr ⟨by rfl, rfl⟩) (⟨k0, k1, k2, k3⟩) ?_
           simp only [Act.put, List.setIfInBounds_toArray, List.set_cons_zero, List.set_cons_succ])
    iterate 1
      first
        | (refine mv_free ?_ (Or.inl ⟨by rfl, ?_⟩) (⟨k0, k1, k2, k3⟩) ?_
           rotate_left 1
           · intro u
             go_simp
             try simp only [d1]
             try simp only [d2]
             try simp only [d3]
             try with_reducible rfl
           simp only [Act.put, List.setIfInBounds_toArray, List.set_cons_zero, List.set_cons_succ])
        | (refine mv_free _ (Or.inr ⟨by rfl, rfl⟩) (⟨k0, k1, k2, k3⟩) ?_
           simp only [Act.put, List.setIfInBounds_toArray, List.set_cons_zero, List.set_cons_succ])
    iterate 1
      first
        | (refine mv_take ?_ (Or.inl ⟨by rfl, ?_⟩) (⟨k0, k1, k2, k3⟩) ?_
           rotate_left 1
           · intro u hu
             (try dsimp only at hu)
             go_simp
             try with_reducible rfl
           simp only [Act.put, List.setIfInBounds_toArray, List.set_cons_zero, List.set_cons_succ])
        | (refine mv_take _ (Or.inr ⟨by rfl, rfl⟩) (⟨k0, k1, k2, k3⟩) ?_
           simp only [Act.put, List.setIfInBounds_toArray, List.set_cons_zero, List.set_cons_succ])
    refine mv_step (fun K hK => ?_)
    go_simp
    refine (A2.out _).mono ?_
    rintro e w3 ⟨rfl, hb3⟩
    have hb3 := hb2.trans (hb3.mono (by have := hb2.size; have := hz.out; show _ ≤ w2.heap.size; omega))
    clear hb2
    obtain ⟨k0, k1, k2, k3⟩ := hcs.out _ hb3
    go_wp2_with fail
    refine hK.out _ _ _ (fun u hu => hu) (⟨k0, k1, k2, k3⟩) ?_
    clear hK K
    iterate 4
      first
        | (refine mv_free ?_ (Or.inl ⟨by rfl, ?_⟩) (⟨k0, k1, k2, k3⟩) ?_
           rotate_left 1
           · intro u
             go_simp
             try simp only [d1]
             try simp only [d2]
             try simp only [d3]
             try with_reducible rfl
           simp only [Act.put, List.setIfInBounds_toArray, List.set_cons_zero, List.set_cons_succ])
        | (refine mv_free _ (Or.inr ⟨by rfl, rfl⟩) (⟨k0, k1, k2, k3⟩) ?_
           simp only [Act.put, List.setIfInBounds_toArray, List.set_cons_zero, List.set_cons_succ])
    iterate 1
      first
        | (refine mv_take ?_ (Or.inl ⟨by rfl, ?_⟩) (⟨k0, k1, k2, k3⟩) ?_
           rotate_left 1
           · intro u hu
             (try dsimp only at hu)
             go_simp
             try with_reducible rfl
           simp only [Act.put, List.setIfInBounds_toArray, List.set_cons_zero, List.set_cons_succ])
        | (refine mv_take _ (Or.inr ⟨by rfl, rfl⟩) (⟨k0, k1, k2, k3⟩) ?_
           simp only [Act.put, List.setIfInBounds_toArray, List.set_cons_zero, List.set_cons_succ])
    iterate 1
      first
        | (refine mv_free ?_ (Or.inl ⟨by rfl, ?_⟩) (⟨k0, k1, k2, k3⟩) ?_
           rotate_left 1
           · intro u
             go_simp
             try simp only [d1]
             try simp only [d2]
             try simp only [d3]
             try with_reducible rfl
           simp only [Act.put, List.setIfInBounds_toArray, List.set_cons_zero, List.set_cons_succ])
        | (refine mv_free _ (Or.inr ⟨by rfl, rfl⟩) (⟨k0, k1, k2, k3⟩) ?_
           simp only [Act.put, List.setIfInBounds_toArray, List.set_cons_zero, List.set_cons_succ])
    iterate 1
      first
        | (refine mv_take ?_ (Or.inl ⟨by rfl, ?_⟩) (⟨k0, k1, k2, k3⟩) ?_
           rotate_left 1
           · intro u hu
             (try dsimp only at hu)
             go_simp
             try with_reducible rfl
           simp only [Act.put, List.setIfInBounds_toArray, List.set_cons_zero, List.set_cons_succ])
        | (refine mv_take _ (Or.inr ⟨by rfl, rfl⟩) (⟨k0, k1, k2, k3⟩) ?_
           simp only [Act.put, List.setIfInBounds_toArray, List.set_cons_zero, List.set_cons_succ])
    iterate 1
      first
        | (refine mv_free ?_ (Or.inl ⟨by rfl, ?_⟩) (⟨k0, k1, k2, k3⟩) ?_
           rotate_left 1
           · intro u
             go_simp
             try simp only [d1]
             try simp only [d2]
             try simp only [d3]
             try with_reducible rfl
           simp only [Act.put, List.setIfInBounds_toArray, List.set_cons_zero, List.set_cons_succ])
        | (refine mv_free _ (Or.inr ⟨by rfl, rfl⟩) (⟨k0, k1, k2, k3⟩) ?_
           simp only [Act.put, List.setIfInBounds_toArray, List.set_cons_zero, List.set_cons_succ])
    iterate 1
      first
        | (refine mv_take ?_ (Or.inl ⟨by rfl, ?_⟩) (⟨k0, k1, k2, k3⟩) ?_
           rotate_left 1
           · intro u hu
             (try dsimp only at hu)
             go_simp
             try with_reducible rfl
           simp only [Act.put, List.setIfInBounds_toArray, List.set_cons_zero, List.set_cons_succ])
        | (refine mv_take _ (Or.inr ⟨by rfl, rfl⟩) (⟨k0, k1, k2, k3⟩) ?_
           simp only [Act.put, List.setIfInBounds_toArray, List.set_cons_zero, List.set_cons_succ])
    refine mv_step (fun K hK => ?_)
    go_simp
    refine (A2.out _).mono ?_
    rintro e w4 ⟨rfl, hb4⟩
    have hb4 := hb3.trans (hb4.mono (by have := hb3.size; have := hz.out; show _ ≤ w3.heap.size; omega))
    clear hb3
    obtain ⟨k0, k1, k2, k3⟩ := hcs.out _ hb4
    go_wp2_with fail
    refine hK.out _ _ _ (fun u hu => hu) (⟨k0, k1, k2, k3⟩) ?_
    clear hK K
    iterate 3
      first
        | (refine mv_free ?_ (Or.inl ⟨by rfl, ?_⟩) (⟨k0, k1, k2, k3⟩) ?_
           rotate_left 1
           · intro u
             go_simp
             try simp only [d1]
             try simp only [d2]
             try simp only [d3]
             try with_reducible rfl
           simp only [Act.put, List.setIfInBounds_toArray, List.set_cons_zero, List.set_cons_succ])
        | (refine mv_free _ (Or.inr ⟨by rfl, rfl⟩) (⟨k0, k1, k2, k3⟩) ?_
           simp only [Act.put, List.setIfInBounds_toArray, List.set_cons_zero, List.set_cons_succ])
    refine mv_step (fun K hK => ?_)
    go_simp
    refine (lives18 _).mono ?_
    rintro e wz ⟨rfl, hbz⟩
    have hbz := hb4.trans (hbz.mono (by have := hb4.size; have := hz.out; show _ ≤ w4.heap.size; omega))
    obtain ⟨k0, k1, k2, k3⟩ := hcs.out _ hbz
    go_wp2_with fail
    refine hK.out _ _ _ (fun u hu => hu) (⟨k0, k1, k2, k3⟩) ?_
    clear hK K
    iterate 2
      first
        | (refine mv_free ?_ (Or.inl ⟨by rfl, ?_⟩) (⟨k0, k1, k2, k3⟩) ?_
           rotate_left 1
           · intro u
             go_simp
             try simp only [d1]
             try simp only [d2]
             try simp only [d3]
             try with_reducible rfl
           simp only [Act.put, List.setIfInBounds_toArray, List.set_cons_zero, List.set_cons_succ])
        | (refine mv_free _ (Or.inr ⟨by rfl, rfl⟩) (⟨k0, k1, k2, k3⟩) ?_
           simp only [Act.put, List.setIfInBounds_toArray, List.set_cons_zero, List.set_cons_succ])
    refine mv_done ?_
    go_wp2
    go_ret
    exact ⟨rfl, hb0.out.trans (hbz.mono (by omega))⟩
  · have hc : x1 < x0 ∨ (x0 ≤ x1 ∧ y1 < y0) ∨ (x0 ≤ x1 ∧ y0 ≤ y1 ∧ x0 < 0) ∨ (x0 ≤ x1 ∧ y0 ≤ y1 ∧ 0 ≤ x0 ∧ y0 < 1) ∨ (x0 ≤ x1 ∧ y0 ≤ y1 ∧ 0 ≤ x0 ∧ 1 ≤ y0 ∧ 4294967296 < x1) ∨ (x0 ≤ x1 ∧ y0 ≤ y1 ∧ 0 ≤ x0 ∧ 1 ≤ y0 ∧ x1 ≤ 4294967296 ∧ 4294967296 < y1) := by omega
    clear hin
    rcases hc with h | ⟨h, h2⟩ | ⟨h, h2, h3⟩ | ⟨h, h2, h3, h4⟩ | ⟨h, h2, h3, h4, h5⟩ | ⟨h, h2, h3, h4, h5, h6⟩
    all_goals
      go_enter Try.func14, Try.ntmps14
      go_wp2_with fail
      rw [← eV.out]
      obtain ⟨k0, k1, k2, k3⟩ := hcs.out _ (Below.refl _ _)
      go_wp2_with fail
      refine (lives18 _).mono ?_
      rintro e w4 ⟨rfl, hb4⟩
      go_wp2
      go_ret
      exact ⟨rfl, hb0.out.trans (hb4.mono hb0.out.size)⟩
end Go.Proofs.Ytbhoallcoblcoaa
