/- The law SheetBetween, walked. -/
import Derived.Test.YtnfbfggkbpobiaaSheet4
import Derived.Deep.Cut
namespace Go.Proofs.Ytnfbfggkbpobiaa
open Go.ChangeShapes Go.WideShapes Go.ChangeAt Go.RowKit
set_option linter.unusedVariables false
set_option linter.unusedSimpArgs false

theorem crF_in {X Y : List Int} (hg : rgtB X Y = true) (x : Int) {lo hi : Int} (h : ∀ i, i < Y.length → lo ≤ Y.getD i 0 ∧ Y.getD i 0 ≤ hi) : lo ≤ crF X Y x ∧ crF X Y x ≤ hi :=
  crV_in hg (crK_ok (rgtB_at hg).2.2.2.1 x) h
theorem crF_pt {X Y : List Int} {t : Nat} (hg : rgtB X Y = true) (ht : t < X.length) : crF X Y (X.getD t 0) = Y.getD t 0 :=
  crV_at hg ht (crK_ok (rgtB_at hg).2.2.2.1 _)
theorem sheet_in {X Y : List Int} {Z : List (List Int)} (hs : shB X Y Z = true) (x y : Int) {lo hi : Int} (h : ∀ i, i < Z.length → ∀ k, k < (Z.getD i []).length → lo ≤ (Z.getD i []).getD k 0 ∧ (Z.getD i []).getD k 0 ≤ hi) : lo ≤ crF X (cuL Y Z y) x ∧ crF X (cuL Y Z y) x ≤ hi := by
  refine crF_in (cuL_right hs y) x fun i hi => ?_
  rw [cuL_len] at hi
  rw [cuL_at y hi]
  exact crF_in ((shB_at hs).2.2.2.2.2 i hi) y (h i hi)
theorem sheet_pt {X Y : List Int} {Z : List (List Int)} (hs : shB X Y Z = true) {i k : Nat} (hi : i < X.length) (hk : k < Y.length) : crF X (cuL Y Z (Y.getD k 0)) (X.getD i 0) = (Z.getD i []).getD k 0 := by
  obtain ⟨_, _, _, _, s5, s6⟩ := shB_at hs
  rw [crF_pt (cuL_right hs _) hi, cuL_at _ (by omega), crF_pt (s6 i (by omega)) hk]
theorem shb_box (w : World) (a1 a2 a3 : Option Addr) (e1 e2 e3 : Nat) (X Y : List Int) (Z : List (List Int)) (x0 x1 p q : Int) : ∃ V, V = (((w.alloc (.cells #[.slice a1 X.length e1, .slice a2 Y.length e2, .slice a3 Z.length e3] 25)).alloc (.cells #[.int .i64 x0, .int .i64 x1] 40)).alloc (.cells #[.int .i64 p, .int .i64 q] 41)) ∧ Below w.heap.size w V ∧ V.heap.size = w.heap.size + 3 ∧ ∀ u, Below (w.heap.size + 3) V u → u.cell? ⟨w.heap.size, 0, none⟩ = some (.slice a1 X.length e1) ∧ u.cell? ⟨w.heap.size, 1, none⟩ = some (.slice a2 Y.length e2) ∧ u.cell? ⟨w.heap.size, 2, none⟩ = some (.slice a3 Z.length e3) ∧ u.cell? ⟨w.heap.size + 1, 0, none⟩ = some (.int .i64 x0) ∧ u.cell? ⟨w.heap.size + 1, 1, none⟩ = some (.int .i64 x1) ∧ u.cell? ⟨w.heap.size + 2, 0, none⟩ = some (.int .i64 p) ∧ u.cell? ⟨w.heap.size + 2, 1, none⟩ = some (.int .i64 q) :=
  ⟨_, rfl, (by repeat (first | exact Below.refl _ _ | assumption | apply Below.drew | apply below_drewN | (refine Below.alloc ?_ (by first | exact Nat.le_refl _ | omega | (simp <;> omega)) _) | (refine Below.setCell ?_ (by first | exact Nat.le_refl _ | omega | (simp <;> omega)) _))), by simp, fun u hu => ⟨(bc hu (by omega)).trans (by go_simp), (bc hu (by omega)).trans (by go_simp), (bc hu (by omega)).trans (by go_simp), (bc hu (by omega)).trans (by go_simp), (bc hu (by omega)).trans (by go_simp), (bc hu (by omega)).trans (by go_simp), (bc hu (by omega)).trans (by go_simp)⟩⟩
set_option maxRecDepth 100000 in
set_option maxHeartbeats 8000000 in
theorem law_SheetBetween (a1 a2 a3 : Option Addr) (GA : Nat → Option Addr) (GC : Nat → Nat) (e1 e2 e3 : Nat) (X Y : List Int) (Z : List (List Int)) (x0 x1 p q : Int) (w : World) (hx : RowIs .i64 w a1 X) (hy : RowIs .i64 w a2 Y) (hg : GridIs .i64 w a3 GA GC Z) : Calls Try.prog 5 #[.agg #[.slice a1 X.length e1, .slice a2 Y.length e2, .slice a3 Z.length e3], .agg #[.int .i64 x0, .int .i64 x1], .agg #[.int .i64 p, .int .i64 q]] w fun e w' => e = .returned (.bool true) ∧ Below w.heap.size w w' := by
  obtain ⟨V, eV, hb0, hz, hcs⟩ := shb_box w a1 a2 a3 e1 e2 e3 X Y Z x0 x1 p q
  have W := fun u (h : Below (w.heap.size + 3) V u) => show Below w.heap.size w u from hb0.trans (h.mono (by omega))
  have LV := Lib.hid (fun u => lives06 u)
  have GR := Lib.hid (fun u (h : Below (w.heap.size + 3) V u) => sgreat a1 a2 a3 GA GC e1 e2 e3 X Y Z u (hg.below (W u h)))
  have AT := Lib.hid (fun x y hX hY hZ hR u (h : Below (w.heap.size + 3) V u) => sat_any a1 a2 a3 GA GC e1 e2 e3 X Y Z x y u (hx.below (W u h)) (hy.below (W u h)) (hg.below (W u h)) hX hY hZ hR)
  have RD := Lib.hid (fun hX hY hZ hR u (h : Below (w.heap.size + 3) V u) => rright06 a1 a2 a3 GA GC e1 e2 e3 X Y Z u (hx.below (W u h)) (hy.below (W u h)) (hg.below (W u h)) hX hY hZ hR)
  have GG := Lib.hid (fun u (h : Below (w.heap.size + 3) V u) => fun i (hi : i < Z.length) => (hg.below (W u h)).at hi)
  have GR2 := Lib.hid (fun u (h : Below (w.heap.size + 3) V u) => fun i (hi : i < Z.length) => (hg.below (W u h)).rows i hi)
  have HX := Lib.hid (fun u (h : Below (w.heap.size + 3) V u) => hx.below (W u h))
  have HY := Lib.hid (fun u (h : Below (w.heap.size + 3) V u) => hy.below (W u h))
  clear hx hy hg W
  replace hb0 := Lib.hid hb0
  replace hz := Lib.hid hz
  replace hcs := Lib.hid hcs
  replace eV := Lib.hid eV
  go_enter Try.func5, Try.ntmps5
  go_wp2_with fail
  rw [← eV.out]
  obtain ⟨k0, k1, k2, k3, k4, k5, k6⟩ := hcs.out _ (Below.refl _ _)
  go_wp2_with fail
  refine (GR.out _ (Below.refl _ _)).mono ?_
  rintro e w1 ⟨g, rfl, hgb, hb1⟩
  have hb1 := (Below.refl (w.heap.size + 3) V).trans (hb1.mono (Nat.le_of_eq hz.out.symm))
  obtain ⟨k0, k1, k2, k3, k4, k5, k6⟩ := hcs.out _ hb1
  cases g
  case true =>
    clear hgb AT RD GG GR2 HX HY
    go_wp2_with fail
    refine (LV.out _).mono ?_
    rintro e w20 ⟨rfl, hb20⟩
    have hb20 := hb1.trans (hb20.mono (by have := hb1.size; have := hz.out; omega))
    go_wp2
    go_ret
    exact ⟨rfl, hb0.out.trans (hb20.mono (by omega))⟩
  case false =>
  obtain ⟨hX, hY, hZ, hR⟩ := hgb rfl
  have RD1 := RD.out hX hY hZ hR
  have A0 := AT.out x0 x1 hX hY hZ hR
  have A1 := fun x y => AT.out x y hX hY hZ hR
  cases hs : shB X Y Z
  · rw [hs] at RD1
    replace RD1 := Lib.hid RD1
    clear hgb AT RD GG GR2 HX HY hX hY hZ hR hs A0 A1
    go_wp2_with fail
    refine (RD1.out _ hb1).mono ?_
    rintro e w2 ⟨rfl, hb2⟩
    have hb2 := hb1.trans (hb2.mono (by have := hb1.size; have := hz.out; omega))
    clear hb1
    obtain ⟨k0, k1, k2, k3, k4, k5, k6⟩ := hcs.out _ hb2
    go_wp2_with fail
    refine (LV.out _).mono ?_
    rintro e w20 ⟨rfl, hb20⟩
    have hb20 := hb2.trans (hb20.mono (by have := hb2.size; have := hz.out; omega))
    go_wp2
    go_ret
    exact ⟨rfl, hb0.out.trans (hb20.mono (by omega))⟩
  obtain ⟨s1, s2, s3, s4, s5, s6⟩ := shB_at hs
  obtain ⟨n1, n2, _⟩ := rgtB_at s1
  obtain ⟨n3, n4, _⟩ := rgtB_at s2
  have RL := Lib.hid (fun i (hi : i < Z.length) => show (Z.getD i []).length = Y.length from (rgtB_at (s6 i hi)).2.2.1)
  rw [hs] at RD1 A0 A1
  simp only [if_true] at A0 A1
  have SI := Lib.hid (fun lo hi h => sheet_in hs x0 x1 (lo := lo) (hi := hi) h)
  have SP := Lib.hid (fun i k hi hk => sheet_pt hs (i := i) (k := k) hi hk)
  generalize crF X (cuL Y Z x1) x0 = n at *
  replace RD1 := Lib.hid RD1
  replace A0 := Lib.hid A0
  replace A1 := Lib.hid A1
  have zp : 0 < Z.length := by omega
  have yp : 0 < Y.length := by omega
  have NL := Lib.hid (show Z.length = X.length ∧ 2 ≤ Z.length ∧ Z.length ≤ 16 ∧ 2 ≤ Y.length ∧ Y.length ≤ 16 from ⟨by omega, by omega, by omega, by omega, by omega⟩)
  clear hgb AT RD hX hY hZ hR hs s1 s2 s3 s4 s5 s6 n1 n2 n3 n4
  go_wp2_with fail
  refine (RD1.out _ hb1).mono ?_
  rintro e w2 ⟨rfl, hb2⟩
  have hb2 := hb1.trans (hb2.mono (by have := hb1.size; have := hz.out; omega))
  clear hb1
  obtain ⟨k0, k1, k2, k3, k4, k5, k6⟩ := hcs.out _ hb2
  obtain ⟨bz, oz, ez, hbz, c9⟩ := GG.out _ hb2 0 zp
  subst ez
  have r0 := GR2.out _ hb2 0 zp
  obtain ⟨br, or_, er, hbr, c8⟩ := r0.at (show 0 < (Z.getD 0 []).length by rw [RL.out 0 zp]; omega)
  rw [er] at c9
  rw [Nat.add_zero] at c9 c8
  have l0 : (0 : Int) < ((Z.getD 0 []).length : Int) := by rw [RL.out 0 zp]; omega
  have l0' : 0 < (Z.getD 0 []).length := by omega
  have lz : (0 : Int) < (Z.length : Int) := by omega
  have lz2 : (2 : Int) ≤ (Z.length : Int) := by have := NL.out; omega
  have lz3 : Z ≠ [] := List.ne_nil_of_length_pos zp
  obtain ⟨m, hm⟩ : ∃ m, m = (Z.getD 0 []).length := ⟨_, rfl⟩
  rw [← hm] at c9 l0 l0'
  replace hm := Lib.hid hm
  generalize hv0 : (Z.getD 0 []).getD 0 0 = v0 at *
  clear hv0 er r0
  go_wp2_with fail
  refine region_still [] [(.free, 0), (.take, 1), (.free, 2), (.take, 3), (.free, 4), (.take, 5), (.free, 6), (.take, 7), (.free, 8), (.take, 9), (.free, 10), (.take, 11), (.free, 12), (.free, 13)] _ (by kernel_rfl) (by kernel_rfl) (by kernel_rfl) (by kernel_rfl) (by decide) rfl (fun _ _ _ _ _ h => h) ?_
  simp only [List.filterMap_cons, List.filterMap_nil, List.getElem?_toArray, List.getElem?_cons_zero, List.getElem?_cons_succ, Option.map_some]
  iterate 1
    first
      | (refine mv_free ?_ (Or.inl ⟨by rfl, ?_⟩) (rfl) ?_
         rotate_left 1
         · intro u
           go_simp
           try simp only [d1]
           try simp only [d2]
           try simp only [d3]
           try with_reducible rfl
         simp only [Act.put, List.setIfInBounds_toArray, List.set_cons_zero, List.set_cons_succ])
      | (refine mv_free _ (Or.inr ⟨by rfl, rfl⟩) (rfl) ?_
         simp only [Act.put, List.setIfInBounds_toArray, List.set_cons_zero, List.set_cons_succ])
  iterate 1
    first
      | (refine mv_take ?_ (Or.inl ⟨by rfl, ?_⟩) (rfl) ?_
         rotate_left 1
         · intro u hu
           (try dsimp only at hu)
           go_simp
           try with_reducible rfl
         simp only [Act.put, List.setIfInBounds_toArray, List.set_cons_zero, List.set_cons_succ])
      | (refine mv_take _ (Or.inr ⟨by rfl, rfl⟩) (rfl) ?_
         simp only [Act.put, List.setIfInBounds_toArray, List.set_cons_zero, List.set_cons_succ])
  iterate 1
    first
      | (refine mv_free ?_ (Or.inl ⟨by rfl, ?_⟩) (rfl) ?_
         rotate_left 1
         · intro u
           go_simp
           try simp only [d1]
           try simp only [d2]
           try simp only [d3]
           try with_reducible rfl
         simp only [Act.put, List.setIfInBounds_toArray, List.set_cons_zero, List.set_cons_succ])
      | (refine mv_free _ (Or.inr ⟨by rfl, rfl⟩) (rfl) ?_
         simp only [Act.put, List.setIfInBounds_toArray, List.set_cons_zero, List.set_cons_succ])
  iterate 1
    first
      | (refine mv_take ?_ (Or.inl ⟨by rfl, ?_⟩) (rfl) ?_
         rotate_left 1
         · intro u hu
           (try dsimp only at hu)
           go_simp
           try with_reducible rfl
         simp only [Act.put, List.setIfInBounds_toArray, List.set_cons_zero, List.set_cons_succ])
      | (refine mv_take _ (Or.inr ⟨by rfl, rfl⟩) (rfl) ?_
         simp only [Act.put, List.setIfInBounds_toArray, List.set_cons_zero, List.set_cons_succ])
  iterate 1
    first
      | (refine mv_free ?_ (Or.inl ⟨by rfl, ?_⟩) (rfl) ?_
         rotate_left 1
         · intro u
           go_simp
           try simp only [d1]
           try simp only [d2]
           try simp only [d3]
           try with_reducible rfl
         simp only [Act.put, List.setIfInBounds_toArray, List.set_cons_zero, List.set_cons_succ])
      | (refine mv_free _ (Or.inr ⟨by rfl, rfl⟩) (rfl) ?_
         simp only [Act.put, List.setIfInBounds_toArray, List.set_cons_zero, List.set_cons_succ])
  iterate 1
    first
      | (refine mv_take ?_ (Or.inl ⟨by rfl, ?_⟩) (rfl) ?_
         rotate_left 1
         · intro u hu
           (try dsimp only at hu)
           go_simp
           try with_reducible rfl
         simp only [Act.put, List.setIfInBounds_toArray, List.set_cons_zero, List.set_cons_succ])
      | (refine mv_take _ (Or.inr ⟨by rfl, rfl⟩) (rfl) ?_
         simp only [Act.put, List.setIfInBounds_toArray, List.set_cons_zero, List.set_cons_succ])
  iterate 1
    first
      | (refine mv_free ?_ (Or.inl ⟨by rfl, ?_⟩) (rfl) ?_
         rotate_left 1
         · intro u
           go_simp
           try simp only [d1]
           try simp only [d2]
           try simp only [d3]
           try with_reducible rfl
         simp only [Act.put, List.setIfInBounds_toArray, List.set_cons_zero, List.set_cons_succ])
      | (refine mv_free _ (Or.inr ⟨by rfl, rfl⟩) (rfl) ?_
         simp only [Act.put, List.setIfInBounds_toArray, List.set_cons_zero, List.set_cons_succ])
  iterate 1
    first
      | (refine mv_take ?_ (Or.inl ⟨by rfl, ?_⟩) (rfl) ?_
         rotate_left 1
         · intro u hu
           (try dsimp only at hu)
           go_simp
           try with_reducible rfl
         simp only [Act.put, List.setIfInBounds_toArray, List.set_cons_zero, List.set_cons_succ])
      | (refine mv_take _ (Or.inr ⟨by rfl, rfl⟩) (rfl) ?_
         simp only [Act.put, List.setIfInBounds_toArray, List.set_cons_zero, List.set_cons_succ])
  iterate 1
    first
      | (refine mv_free ?_ (Or.inl ⟨by rfl, ?_⟩) (rfl) ?_
         rotate_left 1
         · intro u
           go_simp
           try simp only [d1]
           try simp only [d2]
           try simp only [d3]
           try with_reducible rfl
         simp only [Act.put, List.setIfInBounds_toArray, List.set_cons_zero, List.set_cons_succ])
      | (refine mv_free _ (Or.inr ⟨by rfl, rfl⟩) (rfl) ?_
         simp only [Act.put, List.setIfInBounds_toArray, List.set_cons_zero, List.set_cons_succ])
  iterate 1
    first
      | (refine mv_take ?_ (Or.inl ⟨by rfl, ?_⟩) (rfl) ?_
         rotate_left 1
         · intro u hu
           (try dsimp only at hu)
           go_simp
           try with_reducible rfl
         simp only [Act.put, List.setIfInBounds_toArray, List.set_cons_zero, List.set_cons_succ])
      | (refine mv_take _ (Or.inr ⟨by rfl, rfl⟩) (rfl) ?_
         simp only [Act.put, List.setIfInBounds_toArray, List.set_cons_zero, List.set_cons_succ])
  iterate 1
    first
      | (refine mv_free ?_ (Or.inl ⟨by rfl, ?_⟩) (rfl) ?_
         rotate_left 1
         · intro u
           go_simp
           try simp only [d1]
           try simp only [d2]
           try simp only [d3]
           try with_reducible rfl
         simp only [Act.put, List.setIfInBounds_toArray, List.set_cons_zero, List.set_cons_succ])
      | (refine mv_free _ (Or.inr ⟨by rfl, rfl⟩) (rfl) ?_
         simp only [Act.put, List.setIfInBounds_toArray, List.set_cons_zero, List.set_cons_succ])
  iterate 1
    first
      | (refine mv_take ?_ (Or.inl ⟨by rfl, ?_⟩) (rfl) ?_
         rotate_left 1
         · intro u hu
           (try dsimp only at hu)
           go_simp
           try with_reducible rfl
         simp only [Act.put, List.setIfInBounds_toArray, List.set_cons_zero, List.set_cons_succ])
      | (refine mv_take _ (Or.inr ⟨by rfl, rfl⟩) (rfl) ?_
         simp only [Act.put, List.setIfInBounds_toArray, List.set_cons_zero, List.set_cons_succ])
  iterate 2
    first
      | (refine mv_free ?_ (Or.inl ⟨by rfl, ?_⟩) (rfl) ?_
         rotate_left 1
         · intro u
           go_simp
           try simp only [d1]
           try simp only [d2]
           try simp only [d3]
           try with_reducible rfl
         simp only [Act.put, List.setIfInBounds_toArray, List.set_cons_zero, List.set_cons_succ])
      | (refine mv_free _ (Or.inr ⟨by rfl, rfl⟩) (rfl) ?_
         simp only [Act.put, List.setIfInBounds_toArray, List.set_cons_zero, List.set_cons_succ])
  refine mv_done ?_
  go_wp2
  clear c8 c9 l0 l0' hm
  go_loopw [7, 8, 9] (fun lo hi i v => ∃ (j : Nat) (lo' hi' : Int), j ≤ Z.length ∧ lo = .int .i64 lo' ∧ hi = .int .i64 hi' ∧ i = .int .i64 (j : Int) ∧ Below (w.heap.size + 3) V v ∧ Hid (∀ t, t < j → ∀ k, k < (Z.getD t []).length → lo' ≤ (Z.getD t []).getD k 0 ∧ (Z.getD t []).getD k 0 ≤ hi')) (fun lo hi i _ => Z.length - (intOf i).toNat)
  case atStart => exact ⟨0, v0, v0, by omega, rfl, rfl, rfl, hb2.drew, Lib.hid (fun t h => by omega)⟩
  case round =>
    clear k0 k1 k2 k3 k4 k5 k6 hb2 lz lz2 lz3
    obtain ⟨j, lo, hi, hj, rfl, rfl, rfl, hb, hU⟩ := hrel
    obtain ⟨k0, k1, k2, k3, k4, k5, k6⟩ := hcs.out _ hb
    by_cases hlt : j < Z.length
    · have l1 : (j : Int) < (Z.length : Int) := by omega
      have hZ9 := NL.out
      have l9 : (Z.length : Int) ≤ 16 := by omega
      go_wp2
      go_loopw [7, 8, 10] (fun lo hi i v => ∃ (k : Nat) (lo' hi' : Int), k ≤ Y.length ∧ lo = .int .i64 lo' ∧ hi = .int .i64 hi' ∧ i = .int .i64 (k : Int) ∧ Below (w.heap.size + 3) V v ∧ Hid ((∀ t, t < j → ∀ k, k < (Z.getD t []).length → lo' ≤ (Z.getD t []).getD k 0 ∧ (Z.getD t []).getD k 0 ≤ hi') ∧ ∀ c, c < k → lo' ≤ (Z.getD j []).getD c 0 ∧ (Z.getD j []).getD c 0 ≤ hi')) (fun lo hi i _ => Y.length - (intOf i).toNat)
      case atStart => exact ⟨0, lo, hi, by omega, rfl, rfl, rfl, hb, Lib.hid ⟨hU.out, fun c h => by omega⟩⟩
      case round =>
        clear k0 k1 k2 k3 k4 k5 k6 hb hU
        obtain ⟨k, lo2, hi2, hk, rfl, rfl, rfl, hb, hU⟩ := hrel
        obtain ⟨k0, k1, k2, k3, k4, k5, k6⟩ := hcs.out _ hb
        obtain ⟨bz2, oz2, ez, hbz2, c9⟩ := GG.out _ hb j hlt
        injection ez with ez
        injection ez with e1' e2'
        subst e1' e2'
        have rl := RL.out j hlt
        by_cases hlk : k < Y.length
        · have r9 := GR2.out _ hb j hlt
          obtain ⟨br, or_, er, hbr, c8⟩ := r9.at (show k < (Z.getD j []).length by omega)
          rw [er, rl] at c9
          have HS := Lib.hid (fun v (hv : v = (Z.getD j []).getD k 0) => show (∀ t, t < j → ∀ k, k < (Z.getD t []).length → min lo2 v ≤ (Z.getD t []).getD k 0 ∧ (Z.getD t []).getD k 0 ≤ max hi2 v) ∧ ∀ c, c < k + 1 → min lo2 v ≤ (Z.getD j []).getD c 0 ∧ (Z.getD j []).getD c 0 ≤ max hi2 v from by
            refine ⟨fun t ht c hc => ?_, fun c hc => ?_⟩
            · have := hU.out.1 t ht c hc; omega
            · by_cases e : c = k
              · subst e; omega
              · have := hU.out.2 c (by omega); omega)
          obtain ⟨v, hv⟩ : ∃ v, v = (Z.getD j []).getD k 0 := ⟨_, rfl⟩
          rw [← hv] at c8
          replace HS := Lib.hid (HS.out v hv)
          have k1' : (k : Int) < (Y.length : Int) := by omega
          clear hv er r9 rl
          go_wp2
          go_roundw
          case rel => exact ⟨k + 1, _, _, by omega, rfl, rfl, by go_num, hb, HS⟩
          case measure => simp [intOf]; omega
        · rw [rl] at c9
          have ek : k = Y.length := by omega
          have hge : (Y.length : Int) ≤ (k : Int) := by omega
          have HS := Lib.hid (show ∀ t, t < j + 1 → ∀ k, k < (Z.getD t []).length → lo2 ≤ (Z.getD t []).getD k 0 ∧ (Z.getD t []).getD k 0 ≤ hi2 from fun t ht c hc => by
            by_cases e : t = j
            · subst e; exact hU.out.2 c (by omega)
            · exact hU.out.1 t (by omega) c hc)
          clear rl
          go_wp2
          go_roundw
          case rel => exact ⟨j + 1, lo2, hi2, by omega, rfl, rfl, by go_num, hb, HS⟩
          case measure => simp [intOf]; omega
    · have hge : (Z.length : Int) ≤ (j : Int) := by omega
      obtain ⟨q1, q2⟩ := SI.out lo hi (fun i h => hU.out i (by omega))
      have nl := NL.out
      have xl : (X.length : Int) = (Z.length : Int) := by omega
      replace xl := Lib.hid xl
      clear hU nl
      go_wp2_with fail
      refine (A0.out _ hb).mono ?_
      rintro e w4 ⟨rfl, hb4⟩
      have hb4 := hb.trans (hb4.mono (by have := hb.size; have := hz.out; omega))
      clear hb k0 k1 k2 k3 k4 k5 k6
      obtain ⟨k0, k1, k2, k3, k4, k5, k6⟩ := hcs.out _ hb4
      go_upto_region 15 with (fail)
      clear q1 q2 A0 SI
      rcases (show p < 0 ∨ (0 ≤ p ∧ (X.length : Int) ≤ p) ∨ (0 ≤ p ∧ p < (X.length : Int) ∧ q < 0) ∨ (0 ≤ p ∧ p < (X.length : Int) ∧ 0 ≤ q ∧ (Y.length : Int) ≤ q) ∨ ∃ i k : Nat, p = (i : Int) ∧ q = (k : Int) ∧ i < X.length ∧ k < Y.length by
        by_cases a : p < 0
        · exact .inl a
        · by_cases b : (X.length : Int) ≤ p
          · exact .inr (.inl ⟨by omega, b⟩)
          · by_cases c : q < 0
            · exact .inr (.inr (.inl ⟨by omega, by omega, c⟩))
            · by_cases d : (Y.length : Int) ≤ q
              · exact .inr (.inr (.inr (.inl ⟨by omega, by omega, by omega, d⟩)))
              · exact .inr (.inr (.inr (.inr ⟨p.toNat, q.toNat, by omega, by omega, by omega, by omega⟩)))) with h | ⟨h, h'⟩ | ⟨h, h', h2⟩ | ⟨h, h', h2, h3⟩ | ⟨i, k, rfl, rfl, hi9, hk9⟩
      · go_wp2_with fail
        refine (LV.out _).mono ?_
        rintro e w20 ⟨rfl, hb20⟩
        have hb20 := hb4.trans (hb20.mono (by have := hb4.size; have := hz.out; omega))
        go_wp2
        go_ret
        exact ⟨rfl, hb0.out.trans (hb20.mono (by omega))⟩
      · go_wp2_with fail
        refine (LV.out _).mono ?_
        rintro e w20 ⟨rfl, hb20⟩
        have hb20 := hb4.trans (hb20.mono (by have := hb4.size; have := hz.out; omega))
        go_wp2
        go_ret
        exact ⟨rfl, hb0.out.trans (hb20.mono (by omega))⟩
      · go_wp2_with fail
        refine (LV.out _).mono ?_
        rintro e w20 ⟨rfl, hb20⟩
        have hb20 := hb4.trans (hb20.mono (by have := hb4.size; have := hz.out; omega))
        go_wp2
        go_ret
        exact ⟨rfl, hb0.out.trans (hb20.mono (by omega))⟩
      · go_wp2_with fail
        refine (LV.out _).mono ?_
        rintro e w20 ⟨rfl, hb20⟩
        have hb20 := hb4.trans (hb20.mono (by have := hb4.size; have := hz.out; omega))
        go_wp2
        go_ret
        exact ⟨rfl, hb0.out.trans (hb20.mono (by omega))⟩
      · have SP9 := SP.out i k hi9 hk9
        have AP := A1.out (X.getD i 0) (Y.getD k 0)
        rw [SP9] at AP
        have rl := RL.out i (by have := NL.out; omega)
        have iz : i < Z.length := by have := NL.out; omega
        obtain ⟨bx, ox, ex, hbx, c5⟩ := (HX.out _ hb4).at hi9
        obtain ⟨b2, o2, ey, hby, c6⟩ := (HY.out _ hb4).at hk9
        have i1 : (i : Int) < (X.length : Int) := by omega
        have i2 : (k : Int) < (Y.length : Int) := by omega
        have i3 : (i : Int) < (Z.length : Int) := by omega
        have i0 : 0 ≤ (i : Int) := by omega
        have i00 : 0 ≤ (k : Int) := by omega
        have G5 := Lib.hid (fun u h => (HX.out u h).at hi9)
        have G6 := Lib.hid (fun u h => (HY.out u h).at hk9)
        have G7 := Lib.hid (fun u h => GG.out u h i iz)
        have G8 := Lib.hid (fun u h => (GR2.out u h i iz).at (show k < (Z.getD i []).length by omega))
        rw [rl] at G7
        generalize X.getD i 0 = vx at *
        generalize Y.getD k 0 = vy at *
        generalize (Z.getD i []).getD k 0 = vz at *
        replace AP := Lib.hid AP
        have d1 : (vz == vz) = true := by simp
        subst ex ey
        clear SP SP9 A1 RL NL HX HY rl GG GR2
        go_wp2_with fail
        refine region_moves (fun u => u.cell? ⟨w.heap.size, 0, none⟩ = some (.slice (some ⟨bx, ox, none⟩) X.length e1) ∧ u.cell? ⟨w.heap.size, 1, none⟩ = some (.slice (some ⟨b2, o2, none⟩) Y.length e2) ∧ u.cell? ⟨w.heap.size, 2, none⟩ = some (.slice (some ⟨bz, oz, none⟩) Z.length e3) ∧ u.cell? ⟨w.heap.size + 1, 0, none⟩ = some (.int .i64 x0) ∧ u.cell? ⟨w.heap.size + 1, 1, none⟩ = some (.int .i64 x1) ∧ u.cell? ⟨w.heap.size + 2, 0, none⟩ = some (.int .i64 (i : Int)) ∧ u.cell? ⟨w.heap.size + 2, 1, none⟩ = some (.int .i64 (k : Int)) ∧ u.cell? ⟨bx, ox + i, none⟩ = some (.int .i64 vx) ∧ u.cell? ⟨b2, o2 + k, none⟩ = some (.int .i64 vy)) [] [(.take, 0), (.free, 1), (.take, 2), (.free, 3), (.take, 4), (.free, 5), (.take, 6), (.free, 7), (.take, 8), (.free, 9), (.take, 10), (.free, 11), (.take, 12), (.step, 13), (.free, 14), (.free, 15), (.free, 16), (.free, 17), (.free, 18)] _ (by kernel_rfl) (by kernel_rfl) (by kernel_rfl) (by kernel_rfl) (by decide) rfl (fun _ _ _ _ _ h => h) ?_
        simp only [List.filterMap_cons, List.filterMap_nil, List.getElem?_toArray, List.getElem?_cons_zero, List.getElem?_cons_succ, Option.map_some]
        iterate 1
          first
            | (refine mv_take ?_ (Or.inl ⟨by rfl, ?_⟩) (⟨k0, k1, k2, k3, k4, k5, k6, c5, c6⟩) ?_
               rotate_left 1
               · intro u hu
                 (try dsimp only at hu)
                 go_simp
                 try with_reducible rfl
               simp only [Act.put, List.setIfInBounds_toArray, List.set_cons_zero, List.set_cons_succ])
            | (refine mv_take _ (Or.inr ⟨by rfl, rfl⟩) (⟨k0, k1, k2, k3, k4, k5, k6, c5, c6⟩) ?_
               simp only [Act.put, List.setIfInBounds_toArray, List.set_cons_zero, List.set_cons_succ])
        iterate 1
          first
            | (refine mv_free ?_ (Or.inl ⟨by rfl, ?_⟩) (⟨k0, k1, k2, k3, k4, k5, k6, c5, c6⟩) ?_
               rotate_left 1
               · intro u
                 go_simp
                 try simp only [d1]
                 try simp only [d2]
                 try simp only [d3]
                 try with_reducible rfl
               simp only [Act.put, List.setIfInBounds_toArray, List.set_cons_zero, List.set_cons_succ])
            | (refine mv_free _ (Or.inr ⟨by rfl, rfl⟩) (⟨k0, k1, k2, k3, k4, k5, k6, c5, c6⟩) ?_
               simp only [Act.put, List.setIfInBounds_toArray, List.set_cons_zero, List.set_cons_succ])
        iterate 1
          first
            | (refine mv_take ?_ (Or.inl ⟨by rfl, ?_⟩) (⟨k0, k1, k2, k3, k4, k5, k6, c5, c6⟩) ?_
               rotate_left 1
               · intro u hu
                 (try dsimp only at hu)
                 go_simp
                 try with_reducible rfl
               simp only [Act.put, List.setIfInBounds_toArray, List.set_cons_zero, List.set_cons_succ])
            | (refine mv_take _ (Or.inr ⟨by rfl, rfl⟩) (⟨k0, k1, k2, k3, k4, k5, k6, c5, c6⟩) ?_
               simp only [Act.put, List.setIfInBounds_toArray, List.set_cons_zero, List.set_cons_succ])
        iterate 1
          first
            | (refine mv_free ?_ (Or.inl ⟨by rfl, ?_⟩) (⟨k0, k1, k2, k3, k4, k5, k6, c5, c6⟩) ?_
               rotate_left 1
               · intro u
                 go_simp
                 try simp only [d1]
                 try simp only [d2]
                 try simp only [d3]
                 try with_reducible rfl
               simp only [Act.put, List.setIfInBounds_toArray, List.set_cons_zero, List.set_cons_succ])
            | (refine mv_free _ (Or.inr ⟨by rfl, rfl⟩) (⟨k0, k1, k2, k3, k4, k5, k6, c5, c6⟩) ?_
               simp only [Act.put, List.setIfInBounds_toArray, List.set_cons_zero, List.set_cons_succ])
        iterate 1
          first
            | (refine mv_take ?_ (Or.inl ⟨by rfl, ?_⟩) (⟨k0, k1, k2, k3, k4, k5, k6, c5, c6⟩) ?_
               rotate_left 1
               · intro u hu
                 (try dsimp only at hu)
                 go_simp
                 try with_reducible rfl
               simp only [Act.put, List.setIfInBounds_toArray, List.set_cons_zero, List.set_cons_succ])
            | (refine mv_take _ (Or.inr ⟨by rfl, rfl⟩) (⟨k0, k1, k2, k3, k4, k5, k6, c5, c6⟩) ?_
               simp only [Act.put, List.setIfInBounds_toArray, List.set_cons_zero, List.set_cons_succ])
        iterate 1
          first
            | (refine mv_free ?_ (Or.inl ⟨by rfl, ?_⟩) (⟨k0, k1, k2, k3, k4, k5, k6, c5, c6⟩) ?_
               rotate_left 1
               · intro u
                 go_simp
                 try simp only [d1]
                 try simp only [d2]
                 try simp only [d3]
                 try with_reducible rfl
               simp only [Act.put, List.setIfInBounds_toArray, List.set_cons_zero, List.set_cons_succ])
            | (refine mv_free _ (Or.inr ⟨by rfl, rfl⟩) (⟨k0, k1, k2, k3, k4, k5, k6, c5, c6⟩) ?_
               simp only [Act.put, List.setIfInBounds_toArray, List.set_cons_zero, List.set_cons_succ])
        iterate 1
          first
            | (refine mv_take ?_ (Or.inl ⟨by rfl, ?_⟩) (⟨k0, k1, k2, k3, k4, k5, k6, c5, c6⟩) ?_
               rotate_left 1
               · intro u hu
                 (try dsimp only at hu)
                 go_simp
                 try with_reducible rfl
               simp only [Act.put, List.setIfInBounds_toArray, List.set_cons_zero, List.set_cons_succ])
            | (refine mv_take _ (Or.inr ⟨by rfl, rfl⟩) (⟨k0, k1, k2, k3, k4, k5, k6, c5, c6⟩) ?_
               simp only [Act.put, List.setIfInBounds_toArray, List.set_cons_zero, List.set_cons_succ])
        iterate 1
          first
            | (refine mv_free ?_ (Or.inl ⟨by rfl, ?_⟩) (⟨k0, k1, k2, k3, k4, k5, k6, c5, c6⟩) ?_
               rotate_left 1
               · intro u
                 go_simp
                 try simp only [d1]
                 try simp only [d2]
                 try simp only [d3]
                 try with_reducible rfl
               simp only [Act.put, List.setIfInBounds_toArray, List.set_cons_zero, List.set_cons_succ])
            | (refine mv_free _ (Or.inr ⟨by rfl, rfl⟩) (⟨k0, k1, k2, k3, k4, k5, k6, c5, c6⟩) ?_
               simp only [Act.put, List.setIfInBounds_toArray, List.set_cons_zero, List.set_cons_succ])
        iterate 1
          first
            | (refine mv_take ?_ (Or.inl ⟨by rfl, ?_⟩) (⟨k0, k1, k2, k3, k4, k5, k6, c5, c6⟩) ?_
               rotate_left 1
               · intro u hu
                 (try dsimp only at hu)
                 go_simp
                 try with_reducible rfl
               simp only [Act.put, List.setIfInBounds_toArray, List.set_cons_zero, List.set_cons_succ])
            | (refine mv_take _ (Or.inr ⟨by rfl, rfl⟩) (⟨k0, k1, k2, k3, k4, k5, k6, c5, c6⟩) ?_
               simp only [Act.put, List.setIfInBounds_toArray, List.set_cons_zero, List.set_cons_succ])
        iterate 1
          first
            | (refine mv_free ?_ (Or.inl ⟨by rfl, ?_⟩) (⟨k0, k1, k2, k3, k4, k5, k6, c5, c6⟩) ?_
               rotate_left 1
               · intro u
                 go_simp
                 try simp only [d1]
                 try simp only [d2]
                 try simp only [d3]
                 try with_reducible rfl
               simp only [Act.put, List.setIfInBounds_toArray, List.set_cons_zero, List.set_cons_succ])
            | (refine mv_free _ (Or.inr ⟨by rfl, rfl⟩) (⟨k0, k1, k2, k3, k4, k5, k6, c5, c6⟩) ?_
               simp only [Act.put, List.setIfInBounds_toArray, List.set_cons_zero, List.set_cons_succ])
        iterate 1
          first
            | (refine mv_take ?_ (Or.inl ⟨by rfl, ?_⟩) (⟨k0, k1, k2, k3, k4, k5, k6, c5, c6⟩) ?_
               rotate_left 1
               · intro u hu
                 (try dsimp only at hu)
                 go_simp
                 try with_reducible rfl
               simp only [Act.put, List.setIfInBounds_toArray, List.set_cons_zero, List.set_cons_succ])
            | (refine mv_take _ (Or.inr ⟨by rfl, rfl⟩) (⟨k0, k1, k2, k3, k4, k5, k6, c5, c6⟩) ?_
               simp only [Act.put, List.setIfInBounds_toArray, List.set_cons_zero, List.set_cons_succ])
        iterate 1
          first
            | (refine mv_free ?_ (Or.inl ⟨by rfl, ?_⟩) (⟨k0, k1, k2, k3, k4, k5, k6, c5, c6⟩) ?_
               rotate_left 1
               · intro u
                 go_simp
                 try simp only [d1]
                 try simp only [d2]
                 try simp only [d3]
                 try with_reducible rfl
               simp only [Act.put, List.setIfInBounds_toArray, List.set_cons_zero, List.set_cons_succ])
            | (refine mv_free _ (Or.inr ⟨by rfl, rfl⟩) (⟨k0, k1, k2, k3, k4, k5, k6, c5, c6⟩) ?_
               simp only [Act.put, List.setIfInBounds_toArray, List.set_cons_zero, List.set_cons_succ])
        iterate 1
          first
            | (refine mv_take ?_ (Or.inl ⟨by rfl, ?_⟩) (⟨k0, k1, k2, k3, k4, k5, k6, c5, c6⟩) ?_
               rotate_left 1
               · intro u hu
                 (try dsimp only at hu)
                 go_simp
                 try with_reducible rfl
               simp only [Act.put, List.setIfInBounds_toArray, List.set_cons_zero, List.set_cons_succ])
            | (refine mv_take _ (Or.inr ⟨by rfl, rfl⟩) (⟨k0, k1, k2, k3, k4, k5, k6, c5, c6⟩) ?_
               simp only [Act.put, List.setIfInBounds_toArray, List.set_cons_zero, List.set_cons_succ])
        refine mv_step (fun K hK => ?_)
        go_simp
        refine (AP.out _ hb4.drew).mono ?_
        rintro e w5 ⟨rfl, hb5⟩
        have hb5 := hb4.drew.trans (hb5.mono (by have := hb4.size; have := hz.out; show _ ≤ w4.heap.size; omega))
        clear hb4 k0 k1 k2 k3 k4 k5 k6 c5 c6
        obtain ⟨k0, k1, k2, k3, k4, k5, k6⟩ := hcs.out _ hb5
        obtain ⟨bx', ox', ex, -, c5⟩ := G5.out _ hb5
        obtain ⟨b2', o2', ey, -, c6⟩ := G6.out _ hb5
        injection ex with ex
        injection ex with e1' e2'
        injection ey with ey
        injection ey with e3' e4'
        subst e1' e2' e3' e4'
        go_wp2_with fail
        refine hK.out _ _ _ (fun u hu => hu) (⟨k0, k1, k2, k3, k4, k5, k6, c5, c6⟩) ?_
        clear hK K
        iterate 5
          first
            | (refine mv_free ?_ (Or.inl ⟨by rfl, ?_⟩) (⟨k0, k1, k2, k3, k4, k5, k6, c5, c6⟩) ?_
               rotate_left 1
               · intro u
                 go_simp
                 try simp only [d1]
                 try simp only [d2]
                 try simp only [d3]
                 try with_reducible rfl
               simp only [Act.put, List.setIfInBounds_toArray, List.set_cons_zero, List.set_cons_succ])
            | (refine mv_free _ (Or.inr ⟨by rfl, rfl⟩) (⟨k0, k1, k2, k3, k4, k5, k6, c5, c6⟩) ?_
               simp only [Act.put, List.setIfInBounds_toArray, List.set_cons_zero, List.set_cons_succ])
        refine mv_done ?_
        obtain ⟨bz2, oz2, ez, -, c9⟩ := G7.out _ hb5
        obtain ⟨br, or_, er, -, c8⟩ := G8.out _ hb5
        injection ez with ez
        injection ez with e1' e2'
        subst e1' e2'
        rw [er] at c9
        replace er := Lib.hid er
        go_wp2_with fail
        refine region_moves (fun u => u.cell? ⟨w.heap.size, 2, none⟩ = some (.slice (some ⟨bz, oz, none⟩) Z.length e3) ∧ u.cell? ⟨w.heap.size + 2, 0, none⟩ = some (.int .i64 (i : Int)) ∧ u.cell? ⟨w.heap.size + 2, 1, none⟩ = some (.int .i64 (k : Int)) ∧ u.cell? ⟨bz, oz + i, none⟩ = some (.slice (some ⟨br, or_, none⟩) Y.length (GC i)) ∧ u.cell? ⟨br, or_ + k, none⟩ = some (.int .i64 vz)) [] [(.free, 0), (.free, 1), (.free, 2), (.free, 3), (.take, 4), (.free, 5), (.take, 6), (.free, 7), (.take, 8), (.free, 9), (.take, 10), (.free, 11), (.take, 12), (.free, 13), (.free, 14), (.free, 15), (.step, 16), (.free, 17), (.free, 18)] _ (by kernel_rfl) (by kernel_rfl) (by kernel_rfl) (by kernel_rfl) (by decide) rfl (fun _ _ _ _ _ h => h) ?_
        simp only [List.filterMap_cons, List.filterMap_nil, List.getElem?_toArray, List.getElem?_cons_zero, List.getElem?_cons_succ, Option.map_some]
        iterate 4
          first
            | (refine mv_free ?_ (Or.inl ⟨by rfl, ?_⟩) (⟨k2, k5, k6, c9, c8⟩) ?_
               rotate_left 1
               · intro u
                 go_simp
                 try simp only [d1]
                 try simp only [d2]
                 try simp only [d3]
                 try with_reducible rfl
               simp only [Act.put, List.setIfInBounds_toArray, List.set_cons_zero, List.set_cons_succ])
            | (refine mv_free _ (Or.inr ⟨by rfl, rfl⟩) (⟨k2, k5, k6, c9, c8⟩) ?_
               simp only [Act.put, List.setIfInBounds_toArray, List.set_cons_zero, List.set_cons_succ])
        iterate 1
          first
            | (refine mv_take ?_ (Or.inl ⟨by rfl, ?_⟩) (⟨k2, k5, k6, c9, c8⟩) ?_
               rotate_left 1
               · intro u hu
                 (try dsimp only at hu)
                 go_simp
                 try with_reducible rfl
               simp only [Act.put, List.setIfInBounds_toArray, List.set_cons_zero, List.set_cons_succ])
            | (refine mv_take _ (Or.inr ⟨by rfl, rfl⟩) (⟨k2, k5, k6, c9, c8⟩) ?_
               simp only [Act.put, List.setIfInBounds_toArray, List.set_cons_zero, List.set_cons_succ])
        iterate 1
          first
            | (refine mv_free ?_ (Or.inl ⟨by rfl, ?_⟩) (⟨k2, k5, k6, c9, c8⟩) ?_
               rotate_left 1
               · intro u
                 go_simp
                 try simp only [d1]
                 try simp only [d2]
                 try simp only [d3]
                 try with_reducible rfl
               simp only [Act.put, List.setIfInBounds_toArray, List.set_cons_zero, List.set_cons_succ])
            | (refine mv_free _ (Or.inr ⟨by rfl, rfl⟩) (⟨k2, k5, k6, c9, c8⟩) ?_
               simp only [Act.put, List.setIfInBounds_toArray, List.set_cons_zero, List.set_cons_succ])
        iterate 1
          first
            | (refine mv_take ?_ (Or.inl ⟨by rfl, ?_⟩) (⟨k2, k5, k6, c9, c8⟩) ?_
               rotate_left 1
               · intro u hu
                 (try dsimp only at hu)
                 go_simp
                 try with_reducible rfl
               simp only [Act.put, List.setIfInBounds_toArray, List.set_cons_zero, List.set_cons_succ])
            | (refine mv_take _ (Or.inr ⟨by rfl, rfl⟩) (⟨k2, k5, k6, c9, c8⟩) ?_
               simp only [Act.put, List.setIfInBounds_toArray, List.set_cons_zero, List.set_cons_succ])
        iterate 1
          first
            | (refine mv_free ?_ (Or.inl ⟨by rfl, ?_⟩) (⟨k2, k5, k6, c9, c8⟩) ?_
               rotate_left 1
               · intro u
                 go_simp
                 try simp only [d1]
                 try simp only [d2]
                 try simp only [d3]
                 try with_reducible rfl
               simp only [Act.put, List.setIfInBounds_toArray, List.set_cons_zero, List.set_cons_succ])
            | (refine mv_free _ (Or.inr ⟨by rfl, rfl⟩) (⟨k2, k5, k6, c9, c8⟩) ?_
               simp only [Act.put, List.setIfInBounds_toArray, List.set_cons_zero, List.set_cons_succ])
        iterate 1
          first
            | (refine mv_take ?_ (Or.inl ⟨by rfl, ?_⟩) (⟨k2, k5, k6, c9, c8⟩) ?_
               rotate_left 1
               · intro u hu
                 (try dsimp only at hu)
                 go_simp
                 try with_reducible rfl
               simp only [Act.put, List.setIfInBounds_toArray, List.set_cons_zero, List.set_cons_succ])
            | (refine mv_take _ (Or.inr ⟨by rfl, rfl⟩) (⟨k2, k5, k6, c9, c8⟩) ?_
               simp only [Act.put, List.setIfInBounds_toArray, List.set_cons_zero, List.set_cons_succ])
        iterate 1
          first
            | (refine mv_free ?_ (Or.inl ⟨by rfl, ?_⟩) (⟨k2, k5, k6, c9, c8⟩) ?_
               rotate_left 1
               · intro u
                 go_simp
                 try simp only [d1]
                 try simp only [d2]
                 try simp only [d3]
                 try with_reducible rfl
               simp only [Act.put, List.setIfInBounds_toArray, List.set_cons_zero, List.set_cons_succ])
            | (refine mv_free _ (Or.inr ⟨by rfl, rfl⟩) (⟨k2, k5, k6, c9, c8⟩) ?_
               simp only [Act.put, List.setIfInBounds_toArray, List.set_cons_zero, List.set_cons_succ])
        iterate 1
          first
            | (refine mv_take ?_ (Or.inl ⟨by rfl, ?_⟩) (⟨k2, k5, k6, c9, c8⟩) ?_
               rotate_left 1
               · intro u hu
                 (try dsimp only at hu)
                 go_simp
                 try with_reducible rfl
               simp only [Act.put, List.setIfInBounds_toArray, List.set_cons_zero, List.set_cons_succ])
            | (refine mv_take _ (Or.inr ⟨by rfl, rfl⟩) (⟨k2, k5, k6, c9, c8⟩) ?_
               simp only [Act.put, List.setIfInBounds_toArray, List.set_cons_zero, List.set_cons_succ])
        iterate 1
          first
            | (refine mv_free ?_ (Or.inl ⟨by rfl, ?_⟩) (⟨k2, k5, k6, c9, c8⟩) ?_
               rotate_left 1
               · intro u
                 go_simp
                 try simp only [d1]
                 try simp only [d2]
                 try simp only [d3]
                 try with_reducible rfl
               simp only [Act.put, List.setIfInBounds_toArray, List.set_cons_zero, List.set_cons_succ])
            | (refine mv_free _ (Or.inr ⟨by rfl, rfl⟩) (⟨k2, k5, k6, c9, c8⟩) ?_
               simp only [Act.put, List.setIfInBounds_toArray, List.set_cons_zero, List.set_cons_succ])
        iterate 1
          first
            | (refine mv_take ?_ (Or.inl ⟨by rfl, ?_⟩) (⟨k2, k5, k6, c9, c8⟩) ?_
               rotate_left 1
               · intro u hu
                 (try dsimp only at hu)
                 go_simp
                 try with_reducible rfl
               simp only [Act.put, List.setIfInBounds_toArray, List.set_cons_zero, List.set_cons_succ])
            | (refine mv_take _ (Or.inr ⟨by rfl, rfl⟩) (⟨k2, k5, k6, c9, c8⟩) ?_
               simp only [Act.put, List.setIfInBounds_toArray, List.set_cons_zero, List.set_cons_succ])
        iterate 3
          first
            | (refine mv_free ?_ (Or.inl ⟨by rfl, ?_⟩) (⟨k2, k5, k6, c9, c8⟩) ?_
               rotate_left 1
               · intro u
                 go_simp
                 try simp only [d1]
                 try simp only [d2]
                 try simp only [d3]
                 try with_reducible rfl
               simp only [Act.put, List.setIfInBounds_toArray, List.set_cons_zero, List.set_cons_succ])
            | (refine mv_free _ (Or.inr ⟨by rfl, rfl⟩) (⟨k2, k5, k6, c9, c8⟩) ?_
               simp only [Act.put, List.setIfInBounds_toArray, List.set_cons_zero, List.set_cons_succ])
        refine mv_step (fun K hK => ?_)
        go_simp
        refine (LV.out _).mono ?_
        rintro e w6 ⟨rfl, hb6⟩
        have hb6 := hb5.drew.trans (hb6.mono (by have := hb5.size; have := hz.out; show _ ≤ w5.heap.size; omega))
        clear hb5 k0 k1 k2 k3 k4 k5 k6 c9 c8 c5 c6
        obtain ⟨k0, k1, k2, k3, k4, k5, k6⟩ := hcs.out _ hb6
        obtain ⟨bz2, oz2, ez, -, c9⟩ := G7.out _ hb6
        obtain ⟨br', or', er2, -, c8⟩ := G8.out _ hb6
        injection ez with ez
        injection ez with e1' e2'
        subst e1' e2'
        rw [er2] at c9
        have e5 := er.out.symm.trans er2
        injection e5 with e5
        injection e5 with e5 e6
        subst e5 e6
        clear er2
        go_wp2_with fail
        refine hK.out _ _ _ (fun u hu => hu) (⟨k2, k5, k6, c9, c8⟩) ?_
        clear hK K
        iterate 2
          first
            | (refine mv_free ?_ (Or.inl ⟨by rfl, ?_⟩) (⟨k2, k5, k6, c9, c8⟩) ?_
               rotate_left 1
               · intro u
                 go_simp
                 try simp only [d1]
                 try simp only [d2]
                 try simp only [d3]
                 try with_reducible rfl
               simp only [Act.put, List.setIfInBounds_toArray, List.set_cons_zero, List.set_cons_succ])
            | (refine mv_free _ (Or.inr ⟨by rfl, rfl⟩) (⟨k2, k5, k6, c9, c8⟩) ?_
               simp only [Act.put, List.setIfInBounds_toArray, List.set_cons_zero, List.set_cons_succ])
        refine mv_done ?_
        go_wp2
        go_ret
        exact ⟨by first | rfl | simp, hb0.out.trans (hb6.mono (by omega))⟩
end Go.Proofs.Ytnfbfggkbpobiaa
