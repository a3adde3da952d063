/- Package unit: Parts in the code and the document; walked. -/
import Derived.Test.YtfejdbmamaggpaaDoorUnit4
import Derived.Test.YtfejdbmamaggpaaDoorNear
namespace Go.Proofs.YtfejdbmamaggpaaDoor
open Go.ChangeShapes Go.WideShapes Go.ChangeAt Go.RowKit
set_option linter.unusedVariables false
set_option linter.unusedSimpArgs false
theorem u_bd {k : Nat} (h : k < 15) : (1 ≤ uA k ∧ uA k ≤ 216728) ∧ (1 ≤ uB k ∧ uB k ≤ 6000) := by
  have : ∀ k, k < 15 → (1 ≤ uA k ∧ uA k ≤ 216728) ∧ (1 ≤ uB k ∧ uB k ≤ 6000) := by decide
  exact this k h
theorem mul_bd {a b : Int} (ha : 1 ≤ a ∧ a ≤ 216728) (hb : 1 ≤ b ∧ b ≤ 6000) : 0 ≤ a * b ∧ a * b ≤ 1300368000 := by
  have h1 : a * b ≤ 216728 * b := Int.mul_le_mul_of_nonneg_right ha.2 (by omega)
  have h2 : 0 ≤ a * b := Int.mul_nonneg (by omega) (by omega)
  omega
theorem mul_bd' {a b : Int} (ha : 1 ≤ a ∧ a ≤ 216728) (hb : 1 ≤ b ∧ b ≤ 6000) : 0 ≤ b * a ∧ b * a ≤ 1300368000 := by
  rw [Int.mul_comm]; exact mul_bd ha hb
def ShU (w : World) (g h : Nat) : Prop := g < w.heap.size ∧ h < w.heap.size ∧ ∀ i, i < 15 → w.cell? ⟨g, i, none⟩ = some (.int .i64 (uA i)) ∧ w.cell? ⟨h, i, none⟩ = some (.int .i64 (uB i))
theorem sh_new (w : World) : ShU ((w.alloc (.cells #[.int .i64 1, .int .i64 100, .int .i64 3048, .int .i64 3048, .int .i64 185200, .int .i64 1, .int .i64 64, .int .i64 6400, .int .i64 216728, .int .i64 1, .int .i64 185200, .int .i64 100000, .int .i64 3048, .int .i64 1, .int .i64 1000] 2)).alloc (.cells #[.int .i64 1, .int .i64 1, .int .i64 100, .int .i64 1, .int .i64 1, .int .i64 1, .int .i64 1, .int .i64 1, .int .i64 1, .int .i64 1, .int .i64 3600, .int .i64 3600, .int .i64 6000, .int .i64 1, .int .i64 1] 2)) w.heap.size (w.heap.size + 1) := by
  refine ⟨by simp; omega, by simp, fun i hi => ?_⟩
  have e1 : ∀ o (x : Value), (#[.int .i64 1, .int .i64 100, .int .i64 3048, .int .i64 3048, .int .i64 185200, .int .i64 1, .int .i64 64, .int .i64 6400, .int .i64 216728, .int .i64 1, .int .i64 185200, .int .i64 100000, .int .i64 3048, .int .i64 1, .int .i64 1000] : Array Value)[o]? = some x → ((w.alloc (.cells #[.int .i64 1, .int .i64 100, .int .i64 3048, .int .i64 3048, .int .i64 185200, .int .i64 1, .int .i64 64, .int .i64 6400, .int .i64 216728, .int .i64 1, .int .i64 185200, .int .i64 100000, .int .i64 3048, .int .i64 1, .int .i64 1000] 2)).alloc (.cells #[.int .i64 1, .int .i64 1, .int .i64 100, .int .i64 1, .int .i64 1, .int .i64 1, .int .i64 1, .int .i64 1, .int .i64 1, .int .i64 1, .int .i64 3600, .int .i64 3600, .int .i64 6000, .int .i64 1, .int .i64 1] 2)).cell? ⟨w.heap.size, o, none⟩ = some x := fun o x h => by
    refine (bc ((Below.refl (w.alloc (.cells #[.int .i64 1, .int .i64 100, .int .i64 3048, .int .i64 3048, .int .i64 185200, .int .i64 1, .int .i64 64, .int .i64 6400, .int .i64 216728, .int .i64 1, .int .i64 185200, .int .i64 100000, .int .i64 3048, .int .i64 1, .int .i64 1000] 2)).heap.size (w.alloc (.cells #[.int .i64 1, .int .i64 100, .int .i64 3048, .int .i64 3048, .int .i64 185200, .int .i64 1, .int .i64 64, .int .i64 6400, .int .i64 216728, .int .i64 1, .int .i64 185200, .int .i64 100000, .int .i64 3048, .int .i64 1, .int .i64 1000] 2))).alloc (Nat.le_refl _) _) (by simp)).trans ?_
    rw [cell_of_row _ w.heap.size _ _ _ _ (heap_alloc_new w _)]; exact h
  have e2 : ∀ o (x : Value), (#[.int .i64 1, .int .i64 1, .int .i64 100, .int .i64 1, .int .i64 1, .int .i64 1, .int .i64 1, .int .i64 1, .int .i64 1, .int .i64 1, .int .i64 3600, .int .i64 3600, .int .i64 6000, .int .i64 1, .int .i64 1] : Array Value)[o]? = some x → ((w.alloc (.cells #[.int .i64 1, .int .i64 100, .int .i64 3048, .int .i64 3048, .int .i64 185200, .int .i64 1, .int .i64 64, .int .i64 6400, .int .i64 216728, .int .i64 1, .int .i64 185200, .int .i64 100000, .int .i64 3048, .int .i64 1, .int .i64 1000] 2)).alloc (.cells #[.int .i64 1, .int .i64 1, .int .i64 100, .int .i64 1, .int .i64 1, .int .i64 1, .int .i64 1, .int .i64 1, .int .i64 1, .int .i64 1, .int .i64 3600, .int .i64 3600, .int .i64 6000, .int .i64 1, .int .i64 1] 2)).cell? ⟨w.heap.size + 1, o, none⟩ = some x := fun o x h => by
    have hn := heap_alloc_new (w.alloc (.cells #[.int .i64 1, .int .i64 100, .int .i64 3048, .int .i64 3048, .int .i64 185200, .int .i64 1, .int .i64 64, .int .i64 6400, .int .i64 216728, .int .i64 1, .int .i64 185200, .int .i64 100000, .int .i64 3048, .int .i64 1, .int .i64 1000] 2)) (.cells #[.int .i64 1, .int .i64 1, .int .i64 100, .int .i64 1, .int .i64 1, .int .i64 1, .int .i64 1, .int .i64 1, .int .i64 1, .int .i64 1, .int .i64 3600, .int .i64 3600, .int .i64 6000, .int .i64 1, .int .i64 1] 2)
    rw [show (w.alloc (.cells #[.int .i64 1, .int .i64 100, .int .i64 3048, .int .i64 3048, .int .i64 185200, .int .i64 1, .int .i64 64, .int .i64 6400, .int .i64 216728, .int .i64 1, .int .i64 185200, .int .i64 100000, .int .i64 3048, .int .i64 1, .int .i64 1000] 2)).heap.size = w.heap.size + 1 by simp] at hn
    rw [cell_of_row _ (w.heap.size + 1) _ _ _ _ hn]; exact h
  match i, hi with
  | 0, _ => exact ⟨e1 0 _ rfl, e2 0 _ rfl⟩
  | 1, _ => exact ⟨e1 1 _ rfl, e2 1 _ rfl⟩
  | 2, _ => exact ⟨e1 2 _ rfl, e2 2 _ rfl⟩
  | 3, _ => exact ⟨e1 3 _ rfl, e2 3 _ rfl⟩
  | 4, _ => exact ⟨e1 4 _ rfl, e2 4 _ rfl⟩
  | 5, _ => exact ⟨e1 5 _ rfl, e2 5 _ rfl⟩
  | 6, _ => exact ⟨e1 6 _ rfl, e2 6 _ rfl⟩
  | 7, _ => exact ⟨e1 7 _ rfl, e2 7 _ rfl⟩
  | 8, _ => exact ⟨e1 8 _ rfl, e2 8 _ rfl⟩
  | 9, _ => exact ⟨e1 9 _ rfl, e2 9 _ rfl⟩
  | 10, _ => exact ⟨e1 10 _ rfl, e2 10 _ rfl⟩
  | 11, _ => exact ⟨e1 11 _ rfl, e2 11 _ rfl⟩
  | 12, _ => exact ⟨e1 12 _ rfl, e2 12 _ rfl⟩
  | 13, _ => exact ⟨e1 13 _ rfl, e2 13 _ rfl⟩
  | 14, _ => exact ⟨e1 14 _ rfl, e2 14 _ rfl⟩
  | i + 15, h => omega
set_option maxRecDepth 100000 in
set_option maxHeartbeats 8000000 in
theorem rshare (k : Nat) (hk : k < 15) (w : World) : Calls Tryd.prog 68 #[.int .i64 (k : Int)] w fun e w' => e = .returned (.tuple #[.int .i64 (uA k), .int .i64 (uB k)]) ∧ Below w.heap.size w w' := by
  have hT := sh_new w
  have hB : Below w.heap.size w ((w.alloc (.cells #[.int .i64 1, .int .i64 100, .int .i64 3048, .int .i64 3048, .int .i64 185200, .int .i64 1, .int .i64 64, .int .i64 6400, .int .i64 216728, .int .i64 1, .int .i64 185200, .int .i64 100000, .int .i64 3048, .int .i64 1, .int .i64 1000] 2)).alloc (.cells #[.int .i64 1, .int .i64 1, .int .i64 100, .int .i64 1, .int .i64 1, .int .i64 1, .int .i64 1, .int .i64 1, .int .i64 1, .int .i64 1, .int .i64 3600, .int .i64 3600, .int .i64 6000, .int .i64 1, .int .i64 1] 2)).drew := (((Below.refl w.heap.size w).alloc (Nat.le_refl _) _).alloc (by simp) _).drew
  obtain ⟨V, eV⟩ : ∃ V, V = (w.alloc (.cells #[.int .i64 1, .int .i64 100, .int .i64 3048, .int .i64 3048, .int .i64 185200, .int .i64 1, .int .i64 64, .int .i64 6400, .int .i64 216728, .int .i64 1, .int .i64 185200, .int .i64 100000, .int .i64 3048, .int .i64 1, .int .i64 1000] 2)).alloc (.cells #[.int .i64 1, .int .i64 1, .int .i64 100, .int .i64 1, .int .i64 1, .int .i64 1, .int .i64 1, .int .i64 1, .int .i64 1, .int .i64 1, .int .i64 3600, .int .i64 3600, .int .i64 6000, .int .i64 1, .int .i64 1] 2) := ⟨_, rfl⟩
  rw [← eV] at hT hB
  obtain ⟨g, eg⟩ : ∃ g, w.heap.size = g := ⟨_, rfl⟩
  rw [eg] at hT hB
  obtain ⟨-, -, hc⟩ := hT
  obtain ⟨x0, x1⟩ := hc k hk
  replace eV := Lib.hid eV
  replace hB := Lib.hid hB
  have j1 : (k : Int) < 15 := by omega
  have j3 : 0 ≤ (k : Int) := by omega
  rw [eg]
  clear hc
  generalize uA k = n0 at *
  generalize uB k = n1 at *
  go_enter Tryd.func68, Tryd.ntmps68
  go_upto_region 3 with (fail)
  try rw [eg]
  rw [← eV.out]
  refine region_moves (fun u => u.cell? ⟨g, k, none⟩ = some (.int .i64 n0) ∧ u.cell? ⟨g + 1, k, none⟩ = some (.int .i64 n1)) [] [(.free, 0), (.free, 1), (.free, 2), (.take, 3), (.free, 4), (.free, 5), (.free, 6), (.take, 7), (.free, 8), (.free, 9)] _ (by kernel_rfl) (by kernel_rfl) (by kernel_rfl) (by kernel_rfl) (by decide) rfl (fun _ _ _ _ _ h => h) ?_
  simp only [List.filterMap_cons, List.filterMap_nil, List.getElem?_toArray, List.getElem?_cons_zero, List.getElem?_cons_succ, Option.map_some]
  iterate 3
    first
      | (refine mv_free ?_ (Or.inl ⟨by rfl, ?_⟩) (⟨x0, x1⟩) ?_
         rotate_left 1
         · intro u
           go_simp
           try simp only [d1]
           try simp only [d2]
           try simp only [d3]
           try with_reducible rfl
         simp only [Act.put, List.setIfInBounds_toArray, List.set_cons_zero, List.set_cons_succ])
      | (refine mv_free _ (Or.inr ⟨by rfl, rfl⟩) (⟨x0, x1⟩) ?_
         simp only [Act.put, List.setIfInBounds_toArray, List.set_cons_zero, List.set_cons_succ])
  iterate 1
    first
      | (refine mv_take ?_ (Or.inl ⟨by rfl, ?_⟩) (⟨x0, x1⟩) ?_
         rotate_left 1
         · intro u hu
           (try dsimp only at hu)
           go_simp
           try with_reducible rfl
         simp only [Act.put, List.setIfInBounds_toArray, List.set_cons_zero, List.set_cons_succ])
      | (refine mv_take _ (Or.inr ⟨by rfl, rfl⟩) (⟨x0, x1⟩) ?_
         simp only [Act.put, List.setIfInBounds_toArray, List.set_cons_zero, List.set_cons_succ])
  iterate 3
    first
      | (refine mv_free ?_ (Or.inl ⟨by rfl, ?_⟩) (⟨x0, x1⟩) ?_
         rotate_left 1
         · intro u
           go_simp
           try simp only [d1]
           try simp only [d2]
           try simp only [d3]
           try with_reducible rfl
         simp only [Act.put, List.setIfInBounds_toArray, List.set_cons_zero, List.set_cons_succ])
      | (refine mv_free _ (Or.inr ⟨by rfl, rfl⟩) (⟨x0, x1⟩) ?_
         simp only [Act.put, List.setIfInBounds_toArray, List.set_cons_zero, List.set_cons_succ])
  iterate 1
    first
      | (refine mv_take ?_ (Or.inl ⟨by rfl, ?_⟩) (⟨x0, x1⟩) ?_
         rotate_left 1
         · intro u hu
           (try dsimp only at hu)
           go_simp
           try with_reducible rfl
         simp only [Act.put, List.setIfInBounds_toArray, List.set_cons_zero, List.set_cons_succ])
      | (refine mv_take _ (Or.inr ⟨by rfl, rfl⟩) (⟨x0, x1⟩) ?_
         simp only [Act.put, List.setIfInBounds_toArray, List.set_cons_zero, List.set_cons_succ])
  iterate 2
    first
      | (refine mv_free ?_ (Or.inl ⟨by rfl, ?_⟩) (⟨x0, x1⟩) ?_
         rotate_left 1
         · intro u
           go_simp
           try simp only [d1]
           try simp only [d2]
           try simp only [d3]
           try with_reducible rfl
         simp only [Act.put, List.setIfInBounds_toArray, List.set_cons_zero, List.set_cons_succ])
      | (refine mv_free _ (Or.inr ⟨by rfl, rfl⟩) (⟨x0, x1⟩) ?_
         simp only [Act.put, List.setIfInBounds_toArray, List.set_cons_zero, List.set_cons_succ])
  refine mv_done ?_
  go_wp2
  go_ret2
  exact ⟨rfl, hB.out⟩
def ptB (n u : Int) : Bool := unB u && nrB (clp n) (uA u.toNat) (uB u.toNat * 1000)
def ptV (n u : Int) : Int := if unB u = true then nrV (clp n) (uA u.toNat) (uB u.toNat * 1000) else 0
theorem un_box (w : World) (n0 : ByteArray) (n1 n2 n3 : Int) : ∃ V, V = w.alloc (.cells #[.string n0, .int .i64 n1, .int .i64 n2, .int .i64 n3] 103) ∧ Below w.heap.size w V ∧ ∀ v, Below V.heap.size V v → v.cell? ⟨w.heap.size, 0, none⟩ = some (.string n0) ∧ v.cell? ⟨w.heap.size, 1, none⟩ = some (.int .i64 n1) ∧ v.cell? ⟨w.heap.size, 2, none⟩ = some (.int .i64 n2) ∧ v.cell? ⟨w.heap.size, 3, none⟩ = some (.int .i64 n3) :=
  ⟨_, rfl, (Below.refl _ _).alloc (Nat.le_refl _) _, fun v k => ⟨(bc k (show w.heap.size < _ by simp)).trans (by go_simp), (bc k (show w.heap.size < _ by simp)).trans (by go_simp), (bc k (show w.heap.size < _ by simp)).trans (by go_simp), (bc k (show w.heap.size < _ by simp)).trans (by go_simp)⟩⟩
set_option maxRecDepth 100000 in
set_option maxHeartbeats 8000000 in
theorem uparts (n u : Int) (w : World) : Calls Tryd.prog 24 #[.agg #[.int .i64 n, .int .i64 u]] w fun e w' => e = .returned (.tuple #[.int .i64 (ptV n u), .bool (ptB n u)]) ∧ Below w.heap.size w w' := by
  obtain ⟨V, eV, hbV, HC⟩ := qt_box w n u
  obtain ⟨B, eB⟩ : ∃ B, w.heap.size = B := ⟨_, rfl⟩
  rw [eB] at HC hbV
  replace HC := Lib.hid HC
  replace eV := Lib.hid eV
  replace hbV := Lib.hid hbV
  have hz := Lib.hid (show B ≤ V.heap.size by rw [← eB]; exact hbV.out.size)
  obtain ⟨c0, c1⟩ := HC.out V (Below.refl _ _)
  have CL := Lib.hid (fun v => clip_any n v)
  rw [eB]
  cases hU : unB u with
  | false =>
    have LO := Lib.hid (ulook_no u V hU)
    rw [show ptV n u = 0 from if_neg (by rw [hU]; simp), show ptB n u = false by unfold ptB; rw [hU]; rfl]
    go_enter Tryd.func24, Tryd.ntmps24
    go_upto_region 1 with (fail)
    try rw [eB]
    rw [← eV.out]
    go_wp2_with fail
    refine LO.out.mono ?_
    rintro e u1 ⟨rfl, hb⟩
    have h2 := Lib.hid (show Below B w _ from hbV.out.trans ((hb.alloc hb.size (.cells #[.string ⟨#[]⟩, .int .i64 0, .int .i64 0, .int .i64 0] 103)).mono hz.out))
    clear hb
    go_wp2
    go_ret2
    exact ⟨rfl, h2.out⟩
  | true =>
    obtain ⟨k, rfl, hk⟩ := unB_k hU
    have LO := ulook_ok (k : Int) V hU
    rw [show ptV n (k : Int) = nrV (clp n) (uA k) (uB k * 1000) from if_pos hU, show ptB n (k : Int) = nrB (clp n) (uA k) (uB k * 1000) by unfold ptB; rw [hU]; rfl]
    rw [Int.toNat_natCast] at LO
    obtain ⟨b1, b2⟩ := u_bd hk
    obtain ⟨b3, b4⟩ := clp_bd n
    have w1 : IntKind.i64.wrap (uB k * 1000) = uB k * 1000 := by rw [IntKind.wrap_i64]; omega
    have NR := fun v => near_any (clp n) (uA k) (uB k * 1000) v (by omega) (by omega) (by omega) (by omega) (by omega) (by omega)
    generalize uN k = n0 at *
    generalize uK k = n1 at *
    generalize uA k = n2 at *
    generalize uB k = n3 at *
    replace LO := Lib.hid LO
    replace NR := Lib.hid NR
    clear b1 b2 b3 b4
    go_enter Tryd.func24, Tryd.ntmps24
    go_upto_region 1 with (fail)
    try rw [eB]
    rw [← eV.out]
    go_wp2_with fail
    refine LO.out.mono ?_
    rintro e u1 ⟨rfl, hb⟩
    have k1 := Lib.hid (show Below V.heap.size V u1 from hb)
    clear hb
    obtain ⟨X, eX, hbX, HX⟩ := un_box u1 n0 n1 n2 n3
    have kX := Lib.hid (show Below V.heap.size V X from k1.out.trans (hbX.mono k1.out.size))
    obtain ⟨C, eC⟩ : ∃ C, u1.heap.size = C := ⟨_, rfl⟩
    rw [eC] at HX hbX
    replace eX := Lib.hid eX
    clear c0 c1
    obtain ⟨c0, c1⟩ := HC.out X kX.out
    obtain ⟨x0, x1, x2, x3⟩ := HX X (Below.refl _ _)
    clear hbX HX
    go_upto_region 2 with (fail)
    try rw [eC]
    rw [← eX.out]
    go_wp2_with fail
    refine (CL.out X).mono ?_
    rintro e u2 ⟨rfl, rfl⟩
    go_wp2_with fail
    refine (NR.out X).mono ?_
    rintro e u3 ⟨rfl, hb⟩
    have h3 := Lib.hid (show Below B w u3 from hbV.out.trans ((kX.out.trans (hb.mono kX.out.size)).mono hz.out))
    clear hb
    go_wp2
    go_ret2
    exact ⟨rfl, h3.out⟩
set_option maxRecDepth 100000 in
set_option maxHeartbeats 8000000 in
theorem rparts (n u : Int) (w : World) : Calls Tryd.prog 25 #[.int .i64 n, .int .i64 u] w fun e w' => e = .returned (.tuple #[.int .i64 (ptV n u), .bool (ptB n u)]) ∧ Below w.heap.size w w' := by
  have TH := fun v => rthere u v
  have CL := Lib.hid (fun v => rclip_any n v)
  cases hU : unB u with
  | false =>
    rw [hU] at TH
    replace TH := Lib.hid TH
    rw [show ptV n u = 0 from if_neg (by rw [hU]; simp), show ptB n u = false by unfold ptB; rw [hU]; rfl]
    go_enter Tryd.func25, Tryd.ntmps25
    go_wp2_with fail
    refine (TH.out w).mono ?_
    rintro e u1 ⟨rfl, rfl⟩
    go_wp2
    go_ret2
    exact ⟨rfl, Below.refl _ _⟩
  | true =>
    rw [hU] at TH
    replace TH := Lib.hid TH
    obtain ⟨k, rfl, hk⟩ := unB_k hU
    rw [show ptV n (k : Int) = nrV (clp n) (uA k) (uB k * 1000) from if_pos hU, show ptB n (k : Int) = nrB (clp n) (uA k) (uB k * 1000) by unfold ptB; rw [hU]; rfl]
    rw [show uB k * 1000 = 1000 * uB k from Int.mul_comm _ _]
    obtain ⟨b1, b2⟩ := u_bd hk
    obtain ⟨b3, b4⟩ := clp_bd n
    have SH := Lib.hid (fun v => rshare k hk v)
    have w1 : IntKind.i64.wrap (1000 * uB k) = 1000 * uB k := by rw [IntKind.wrap_i64]; omega
    have NR := Lib.hid (fun v => rquo_nr (clp n) (uA k) (1000 * uB k) v (by omega) (by omega) (by omega) (by omega) (by omega) (by omega))
    generalize uA k = n2 at *
    generalize uB k = n3 at *
    clear b1 b2 b3 b4
    go_enter Tryd.func25, Tryd.ntmps25
    go_wp2_with fail
    refine (TH.out w).mono ?_
    rintro e u1 ⟨rfl, rfl⟩
    go_wp2_with fail
    refine (SH.out w).mono ?_
    rintro e u1 ⟨rfl, hb⟩
    have k1 := Lib.hid (show Below w.heap.size w u1 from hb)
    clear hb
    go_wp2_with fail
    refine (CL.out u1).mono ?_
    rintro e u2 ⟨rfl, rfl⟩
    go_wp2_with fail
    refine (NR.out u1).mono ?_
    rintro e u3 ⟨rfl, hb⟩
    have k3 := Lib.hid (show Below w.heap.size w u3 from k1.out.trans (hb.mono k1.out.size))
    clear hb
    go_wp2
    go_ret2
    exact ⟨rfl, k3.out⟩
end Go.Proofs.YtfejdbmamaggpaaDoor
