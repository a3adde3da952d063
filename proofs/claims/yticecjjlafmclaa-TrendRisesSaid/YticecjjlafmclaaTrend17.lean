/- The law TrendRises; walked. -/
import Derived.Test.YticecjjlafmclaaTrend8
import Derived.Test.YticecjjlafmclaaTrend16
import Derived.Deep.Cut
namespace Go.Proofs.Yticecjjlafmclaa
open Go.ChangeShapes Go.WideShapes Go.ChangeAt Go.RowKit
set_option linter.unusedVariables false
set_option linter.unusedSimpArgs false
set_option maxRecDepth 100000 in
set_option maxHeartbeats 8000000 in
theorem law_TrendRises (sz : Int) (a : Option Addr) (cap : Nat) (H : List Int) (w : World) (hr : RowIs .i64 w a H) (hL : H.length ≤ maxLen) : Calls Try.prog 8 #[.int .i64 sz, .slice a H.length cap] w fun e w' => e = .returned (.bool true) ∧ Below w.heap.size w w' := by
  have hL' : (H.length : Int) ≤ 9223372036854775807 := by unfold maxLen at hL; omega
  have LV := Lib.hid (fun u => lives44 u)
  rcases (show (sz < 2 ∨ 64 < sz) ∨ (2 ≤ sz ∧ sz ≤ 64) by omega) with g | ⟨g, g2⟩
  · have NW := Lib.hid (fun u => trnew_no sz u g)
    clear g hr hL hL'
    go_enter Try.func8, Try.ntmps8
    go_wp2_with fail
    refine (NW.out _).mono ?_
    rintro e w1 ⟨rfl, rfl⟩
    go_wp2_with fail
    refine (LV.out _).mono ?_
    rintro e w20 ⟨rfl, hb20⟩
    have hb21 := Lib.hid ((Below.refl w.heap.size w).trans (hb20.mono ((Below.refl w.heap.size w)).size))
    clear hb20
    go_wp2
    go_ret
    exact ⟨rfl, hb21.out⟩
  have NW := Lib.hid (fun u => trnew_ok sz u ⟨g, g2⟩)
  by_cases h100 : 100 < H.length
  · have d100 : (100 : Int) < (H.length : Int) := by omega
    clear hr hL hL' h100
    go_enter Try.func8, Try.ntmps8
    go_wp2_with fail
    refine (NW.out _).mono ?_
    rintro e w1 ⟨b, hbb, rfl, m1, hb1⟩
    go_wp2_with fail
    refine (LV.out _).mono ?_
    rintro e w20 ⟨rfl, hb20⟩
    have hb21 := Lib.hid (hb1.trans (hb20.mono (hb1).size))
    clear hb20
    go_wp2
    go_ret
    exact ⟨rfl, hb21.out⟩
  have d100 : (H.length : Int) ≤ 100 := by omega
  have RW := Lib.hid (fun u (h : Below w.heap.size w u) => hr.below h)
  have PT := Lib.hid (fun (b : Nat) (L : List Int) (h : Int) u (m : Tr w.heap.size b sz L u) => trput_all h u m)
  have CL := Lib.hid (fun (h : Int) u => c19 h u)
  have SL := Lib.hid (fun (b : Nat) (N : List Int) u (m : Tr w.heap.size b sz N u) (z : 2 ≤ N.length) => trslope u m z)
  have MI := Lib.hid (fun (b : Nat) (N : List Int) u (m : Tr w.heap.size b sz N u) (z : 2 ≤ N.length) => trmiddle u m z)
  have SF := Lib.hid (fun (b : Nat) (N : List Int) u (m : Tr w.heap.size b sz N u) (z : N.length < 2) => trslope_few _ u (few_tr m z))
  have MF := Lib.hid (fun (b : Nat) (N : List Int) u (m : Tr w.heap.size b sz N u) (z : N.length < 2) => trmiddle_few _ u (few_tr m z))
  clear hr hL hL' h100
  go_enter Try.func8, Try.ntmps8
  go_wp2_with fail
  refine (NW.out _).mono ?_
  rintro e w1 ⟨b, hbb, rfl, m1, hb1⟩
  clear hbb
  replace m1 := Lib.hid m1
  go_wp2_with fail
  go_loopw [7, 8, 9] (fun p q i v => ∃ k : Nat, k ≤ H.length ∧ p = .bool (upN H k) ∧ q = .bool (dnN H k) ∧ i = .int .i64 (k : Int) ∧ Below w.heap.size w v ∧ Hid (Tr w.heap.size b sz (rsL sz H k) v)) (fun _ _ i _ => H.length - (intOf i).toNat)
  case atStart => exact ⟨0, by omega, rfl, rfl, rfl, hb1, Lib.hid (by have := m1.out; simpa [rsL] using this)⟩
  case round =>
    clear hb1 m1
    obtain ⟨k, hk, rfl, rfl, rfl, hb, hS⟩ := hrel
    by_cases hlt : k < H.length
    · obtain ⟨br, or_, ea, -, c1⟩ := (RW.out _ hb).at hlt
      subst ea
      have h1 : (k : Int) < (H.length : Int) := by omega
      have h0 : 0 ≤ (k : Int) := by omega
      have ek := Lib.hid (rsL_succ (H := H) (k := k) g hlt)
      obtain ⟨y, ey⟩ : ∃ y, y = H.getD k 0 := ⟨_, rfl⟩
      rw [← ey] at c1
      rw [← ey] at ek
      replace ey := Lib.hid ey
      have up1 : upN H (k + 1) = (upN H k && (decide (k = 0) || decide (H.getD (k - 1) 0 ≤ y))) := by rw [ey.out]; rfl
      have dn1 : dnN H (k + 1) = (dnN H k && (decide (k = 0) || decide (y ≤ H.getD (k - 1) 0))) := by rw [ey.out]; rfl
      obtain ⟨p, ep⟩ : ∃ p, p = upN H k := ⟨_, rfl⟩
      obtain ⟨q, eq⟩ : ∃ q, q = dnN H k := ⟨_, rfl⟩
      rw [← ep] at up1 ⊢
      rw [← eq] at dn1 ⊢
      replace up1 := Lib.hid up1
      replace dn1 := Lib.hid dn1
      go_wp2_with fail
      refine (PT.out b _ y _ hS.out).mono ?_
      rintro e w2 ⟨rfl, m2, bs2⟩
      have hb2 := hb.trans bs2
      rw [ek.out] at m2
      replace m2 := Lib.hid m2
      clear hb bs2 hS c1
      have c1 : w2.cell? ⟨br, or_ + k, none⟩ = some (.int .i64 y) := by
        obtain ⟨b9, o9, e9, -, c9⟩ := (RW.out _ hb2).at hlt
        injection e9 with e9
        injection e9 with e9 e10
        subst e9 e10
        rw [ey.out]
        exact c9
      by_cases hk0 : k = 0
      · obtain rfl : p = true := by rw [ep, hk0]; rfl
        obtain rfl : q = true := by rw [eq, hk0]; rfl
        have hk1 : (k : Int) = 0 := by omega
        have d1 : ((k : Int) == 0) = true := by simp [hk0]
        have hu := Lib.hid (show upN H (k + 1) = true by rw [up1.out]; simp [hk0])
        have hd := Lib.hid (show dnN H (k + 1) = true by rw [dn1.out]; simp [hk0])
        clear up1 dn1 ep eq
        go_wp2_with fail
        refine region_moves (fun u => u.cell? ⟨br, or_ + k, none⟩ = some (.int .i64 y)) [] [(.free, 0), (.free, 1), (.free, 2), (.free, 3), (.free, 4), (.free, 5), (.free, 6), (.free, 7), (.take, 8), (.free, 9), (.free, 10), (.free, 11), (.free, 12), (.take, 13), (.free, 14), (.free, 15), (.free, 16), (.free, 17)] _ (by kernel_rfl) (by kernel_rfl) (by kernel_rfl) (by kernel_rfl) (by decide) rfl (fun _ _ _ _ _ h => h) ?_
        simp only [List.filterMap_cons, List.filterMap_nil, List.getElem?_toArray, List.getElem?_cons_zero, List.getElem?_cons_succ, Option.map_some]
        iterate 8
          first
            | (refine mv_free ?_ (Or.inl ⟨by rfl, ?_⟩) (c1) ?_
               rotate_left 1
               · intro u
                 go_simp
                 try simp only [d1]
                 try simp only [d2]
                 try simp only [d3]
                 try with_reducible rfl
               simp only [Act.put, List.setIfInBounds_toArray, List.set_cons_zero, List.set_cons_succ])
            | (refine mv_free _ (Or.inr ⟨by rfl, rfl⟩) (c1) ?_
               simp only [Act.put, List.setIfInBounds_toArray, List.set_cons_zero, List.set_cons_succ])
        iterate 1
          first
            | (refine mv_take ?_ (Or.inl ⟨by rfl, ?_⟩) (c1) ?_
               rotate_left 1
               · intro u hu
                 (try dsimp only at hu)
                 go_simp
                 try with_reducible rfl
               simp only [Act.put, List.setIfInBounds_toArray, List.set_cons_zero, List.set_cons_succ])
            | (refine mv_take _ (Or.inr ⟨by rfl, rfl⟩) (c1) ?_
               simp only [Act.put, List.setIfInBounds_toArray, List.set_cons_zero, List.set_cons_succ])
        iterate 4
          first
            | (refine mv_free ?_ (Or.inl ⟨by rfl, ?_⟩) (c1) ?_
               rotate_left 1
               · intro u
                 go_simp
                 try simp only [d1]
                 try simp only [d2]
                 try simp only [d3]
                 try with_reducible rfl
               simp only [Act.put, List.setIfInBounds_toArray, List.set_cons_zero, List.set_cons_succ])
            | (refine mv_free _ (Or.inr ⟨by rfl, rfl⟩) (c1) ?_
               simp only [Act.put, List.setIfInBounds_toArray, List.set_cons_zero, List.set_cons_succ])
        iterate 1
          first
            | (refine mv_take ?_ (Or.inl ⟨by rfl, ?_⟩) (c1) ?_
               rotate_left 1
               · intro u hu
                 (try dsimp only at hu)
                 go_simp
                 try with_reducible rfl
               simp only [Act.put, List.setIfInBounds_toArray, List.set_cons_zero, List.set_cons_succ])
            | (refine mv_take _ (Or.inr ⟨by rfl, rfl⟩) (c1) ?_
               simp only [Act.put, List.setIfInBounds_toArray, List.set_cons_zero, List.set_cons_succ])
        iterate 4
          first
            | (refine mv_free ?_ (Or.inl ⟨by rfl, ?_⟩) (c1) ?_
               rotate_left 1
               · intro u
                 go_simp
                 try simp only [d1]
                 try simp only [d2]
                 try simp only [d3]
                 try with_reducible rfl
               simp only [Act.put, List.setIfInBounds_toArray, List.set_cons_zero, List.set_cons_succ])
            | (refine mv_free _ (Or.inr ⟨by rfl, rfl⟩) (c1) ?_
               simp only [Act.put, List.setIfInBounds_toArray, List.set_cons_zero, List.set_cons_succ])
        refine mv_done ?_
        go_wp2_with fail
        refine region_moves (fun u => u.cell? ⟨br, or_ + k, none⟩ = some (.int .i64 y)) [] [(.free, 0), (.free, 1), (.free, 2), (.free, 3), (.free, 4), (.free, 5), (.free, 6), (.free, 7), (.take, 8), (.free, 9), (.free, 10), (.free, 11), (.free, 12), (.take, 13), (.free, 14), (.free, 15), (.free, 16), (.free, 17)] _ (by kernel_rfl) (by kernel_rfl) (by kernel_rfl) (by kernel_rfl) (by decide) rfl (fun _ _ _ _ _ h => h) ?_
        simp only [List.filterMap_cons, List.filterMap_nil, List.getElem?_toArray, List.getElem?_cons_zero, List.getElem?_cons_succ, Option.map_some]
        iterate 8
          first
            | (refine mv_free ?_ (Or.inl ⟨by rfl, ?_⟩) (c1) ?_
               rotate_left 1
               · intro u
                 go_simp
                 try simp only [d1]
                 try simp only [d2]
                 try simp only [d3]
                 try with_reducible rfl
               simp only [Act.put, List.setIfInBounds_toArray, List.set_cons_zero, List.set_cons_succ])
            | (refine mv_free _ (Or.inr ⟨by rfl, rfl⟩) (c1) ?_
               simp only [Act.put, List.setIfInBounds_toArray, List.set_cons_zero, List.set_cons_succ])
        iterate 1
          first
            | (refine mv_take ?_ (Or.inl ⟨by rfl, ?_⟩) (c1) ?_
               rotate_left 1
               · intro u hu
                 (try dsimp only at hu)
                 go_simp
                 try with_reducible rfl
               simp only [Act.put, List.setIfInBounds_toArray, List.set_cons_zero, List.set_cons_succ])
            | (refine mv_take _ (Or.inr ⟨by rfl, rfl⟩) (c1) ?_
               simp only [Act.put, List.setIfInBounds_toArray, List.set_cons_zero, List.set_cons_succ])
        iterate 4
          first
            | (refine mv_free ?_ (Or.inl ⟨by rfl, ?_⟩) (c1) ?_
               rotate_left 1
               · intro u
                 go_simp
                 try simp only [d1]
                 try simp only [d2]
                 try simp only [d3]
                 try with_reducible rfl
               simp only [Act.put, List.setIfInBounds_toArray, List.set_cons_zero, List.set_cons_succ])
            | (refine mv_free _ (Or.inr ⟨by rfl, rfl⟩) (c1) ?_
               simp only [Act.put, List.setIfInBounds_toArray, List.set_cons_zero, List.set_cons_succ])
        iterate 1
          first
            | (refine mv_take ?_ (Or.inl ⟨by rfl, ?_⟩) (c1) ?_
               rotate_left 1
               · intro u hu
                 (try dsimp only at hu)
                 go_simp
                 try with_reducible rfl
               simp only [Act.put, List.setIfInBounds_toArray, List.set_cons_zero, List.set_cons_succ])
            | (refine mv_take _ (Or.inr ⟨by rfl, rfl⟩) (c1) ?_
               simp only [Act.put, List.setIfInBounds_toArray, List.set_cons_zero, List.set_cons_succ])
        iterate 4
          first
            | (refine mv_free ?_ (Or.inl ⟨by rfl, ?_⟩) (c1) ?_
               rotate_left 1
               · intro u
                 go_simp
                 try simp only [d1]
                 try simp only [d2]
                 try simp only [d3]
                 try with_reducible rfl
               simp only [Act.put, List.setIfInBounds_toArray, List.set_cons_zero, List.set_cons_succ])
            | (refine mv_free _ (Or.inr ⟨by rfl, rfl⟩) (c1) ?_
               simp only [Act.put, List.setIfInBounds_toArray, List.set_cons_zero, List.set_cons_succ])
        refine mv_done ?_
        go_wp2
        go_roundw
        case rel => exact ⟨k + 1, by omega, by rw [hu.out], by rw [hd.out], by go_num, hb2.drew.drew, Lib.hid m2.out.drew.drew⟩
        case measure => simp [intOf]; omega
      · obtain ⟨j, ej⟩ : ∃ j, k = j + 1 := ⟨k - 1, by omega⟩
        obtain ⟨b9, o9, e9, -, c2⟩ := (RW.out _ hb2).at (show j < H.length by omega)
        injection e9 with e9
        injection e9 with e9 e10
        subst e9 e10
        rw [show k - 1 = j by omega] at up1 dn1
        generalize H.getD j 0 = x at *
        have wj : IntKind.i64.wrap ((k : Int) - 1) = (j : Int) := by rw [IntKind.wrap_i64]; omega
        have j0 : 0 ≤ (j : Int) := by omega
        have j1 : (j : Int) < (H.length : Int) := by omega
        have d1 : ((k : Int) == 0) = false := by simp; omega
        have hu := Lib.hid (show upN H (k + 1) = (p && decide (x ≤ y)) by rw [up1.out]; simp [hk0])
        have hd := Lib.hid (show dnN H (k + 1) = (q && decide (y ≤ x)) by rw [dn1.out]; simp [hk0])
        have hk1 : ¬ (k : Int) = 0 := by omega
        clear up1 dn1 ep eq
        replace ej := Lib.hid ej
        cases p <;> cases q
        all_goals
          go_wp2_with fail
          refine region_moves (fun u => u.cell? ⟨br, or_ + k, none⟩ = some (.int .i64 y) ∧ u.cell? ⟨br, or_ + j, none⟩ = some (.int .i64 x)) [] [(.free, 0), (.free, 1), (.free, 2), (.free, 3), (.free, 4), (.free, 5), (.free, 6), (.free, 7), (.take, 8), (.free, 9), (.free, 10), (.free, 11), (.free, 12), (.take, 13), (.free, 14), (.free, 15), (.free, 16), (.free, 17)] _ (by kernel_rfl) (by kernel_rfl) (by kernel_rfl) (by kernel_rfl) (by decide) rfl (fun _ _ _ _ _ h => h) ?_
          simp only [List.filterMap_cons, List.filterMap_nil, List.getElem?_toArray, List.getElem?_cons_zero, List.getElem?_cons_succ, Option.map_some]
          iterate 8
            first
              | (refine mv_free ?_ (Or.inl ⟨by rfl, ?_⟩) (⟨c1, c2⟩) ?_
                 rotate_left 1
                 · intro u
                   go_simp
                   try simp only [d1]
                   try simp only [d2]
                   try simp only [d3]
                   try with_reducible rfl
                 simp only [Act.put, List.setIfInBounds_toArray, List.set_cons_zero, List.set_cons_succ])
              | (refine mv_free _ (Or.inr ⟨by rfl, rfl⟩) (⟨c1, c2⟩) ?_
                 simp only [Act.put, List.setIfInBounds_toArray, List.set_cons_zero, List.set_cons_succ])
          iterate 1
            first
              | (refine mv_take ?_ (Or.inl ⟨by rfl, ?_⟩) (⟨c1, c2⟩) ?_
                 rotate_left 1
                 · intro u hu
                   (try dsimp only at hu)
                   go_simp
                   try with_reducible rfl
                 simp only [Act.put, List.setIfInBounds_toArray, List.set_cons_zero, List.set_cons_succ])
              | (refine mv_take _ (Or.inr ⟨by rfl, rfl⟩) (⟨c1, c2⟩) ?_
                 simp only [Act.put, List.setIfInBounds_toArray, List.set_cons_zero, List.set_cons_succ])
          iterate 4
            first
              | (refine mv_free ?_ (Or.inl ⟨by rfl, ?_⟩) (⟨c1, c2⟩) ?_
                 rotate_left 1
                 · intro u
                   go_simp
                   try simp only [d1]
                   try simp only [d2]
                   try simp only [d3]
                   try with_reducible rfl
                 simp only [Act.put, List.setIfInBounds_toArray, List.set_cons_zero, List.set_cons_succ])
              | (refine mv_free _ (Or.inr ⟨by rfl, rfl⟩) (⟨c1, c2⟩) ?_
                 simp only [Act.put, List.setIfInBounds_toArray, List.set_cons_zero, List.set_cons_succ])
          iterate 1
            first
              | (refine mv_take ?_ (Or.inl ⟨by rfl, ?_⟩) (⟨c1, c2⟩) ?_
                 rotate_left 1
                 · intro u hu
                   (try dsimp only at hu)
                   go_simp
                   try with_reducible rfl
                 simp only [Act.put, List.setIfInBounds_toArray, List.set_cons_zero, List.set_cons_succ])
              | (refine mv_take _ (Or.inr ⟨by rfl, rfl⟩) (⟨c1, c2⟩) ?_
                 simp only [Act.put, List.setIfInBounds_toArray, List.set_cons_zero, List.set_cons_succ])
          iterate 4
            first
              | (refine mv_free ?_ (Or.inl ⟨by rfl, ?_⟩) (⟨c1, c2⟩) ?_
                 rotate_left 1
                 · intro u
                   go_simp
                   try simp only [d1]
                   try simp only [d2]
                   try simp only [d3]
                   try with_reducible rfl
                 simp only [Act.put, List.setIfInBounds_toArray, List.set_cons_zero, List.set_cons_succ])
              | (refine mv_free _ (Or.inr ⟨by rfl, rfl⟩) (⟨c1, c2⟩) ?_
                 simp only [Act.put, List.setIfInBounds_toArray, List.set_cons_zero, List.set_cons_succ])
          refine mv_done ?_
          go_wp2_with fail
          refine region_moves (fun u => u.cell? ⟨br, or_ + k, none⟩ = some (.int .i64 y) ∧ u.cell? ⟨br, or_ + j, none⟩ = some (.int .i64 x)) [] [(.free, 0), (.free, 1), (.free, 2), (.free, 3), (.free, 4), (.free, 5), (.free, 6), (.free, 7), (.take, 8), (.free, 9), (.free, 10), (.free, 11), (.free, 12), (.take, 13), (.free, 14), (.free, 15), (.free, 16), (.free, 17)] _ (by kernel_rfl) (by kernel_rfl) (by kernel_rfl) (by kernel_rfl) (by decide) rfl (fun _ _ _ _ _ h => h) ?_
          simp only [List.filterMap_cons, List.filterMap_nil, List.getElem?_toArray, List.getElem?_cons_zero, List.getElem?_cons_succ, Option.map_some]
          iterate 8
            first
              | (refine mv_free ?_ (Or.inl ⟨by rfl, ?_⟩) (⟨c1, c2⟩) ?_
                 rotate_left 1
                 · intro u
                   go_simp
                   try simp only [d1]
                   try simp only [d2]
                   try simp only [d3]
                   try with_reducible rfl
                 simp only [Act.put, List.setIfInBounds_toArray, List.set_cons_zero, List.set_cons_succ])
              | (refine mv_free _ (Or.inr ⟨by rfl, rfl⟩) (⟨c1, c2⟩) ?_
                 simp only [Act.put, List.setIfInBounds_toArray, List.set_cons_zero, List.set_cons_succ])
          iterate 1
            first
              | (refine mv_take ?_ (Or.inl ⟨by rfl, ?_⟩) (⟨c1, c2⟩) ?_
                 rotate_left 1
                 · intro u hu
                   (try dsimp only at hu)
                   go_simp
                   try with_reducible rfl
                 simp only [Act.put, List.setIfInBounds_toArray, List.set_cons_zero, List.set_cons_succ])
              | (refine mv_take _ (Or.inr ⟨by rfl, rfl⟩) (⟨c1, c2⟩) ?_
                 simp only [Act.put, List.setIfInBounds_toArray, List.set_cons_zero, List.set_cons_succ])
          iterate 4
            first
              | (refine mv_free ?_ (Or.inl ⟨by rfl, ?_⟩) (⟨c1, c2⟩) ?_
                 rotate_left 1
                 · intro u
                   go_simp
                   try simp only [d1]
                   try simp only [d2]
                   try simp only [d3]
                   try with_reducible rfl
                 simp only [Act.put, List.setIfInBounds_toArray, List.set_cons_zero, List.set_cons_succ])
              | (refine mv_free _ (Or.inr ⟨by rfl, rfl⟩) (⟨c1, c2⟩) ?_
                 simp only [Act.put, List.setIfInBounds_toArray, List.set_cons_zero, List.set_cons_succ])
          iterate 1
            first
              | (refine mv_take ?_ (Or.inl ⟨by rfl, ?_⟩) (⟨c1, c2⟩) ?_
                 rotate_left 1
                 · intro u hu
                   (try dsimp only at hu)
                   go_simp
                   try with_reducible rfl
                 simp only [Act.put, List.setIfInBounds_toArray, List.set_cons_zero, List.set_cons_succ])
              | (refine mv_take _ (Or.inr ⟨by rfl, rfl⟩) (⟨c1, c2⟩) ?_
                 simp only [Act.put, List.setIfInBounds_toArray, List.set_cons_zero, List.set_cons_succ])
          iterate 4
            first
              | (refine mv_free ?_ (Or.inl ⟨by rfl, ?_⟩) (⟨c1, c2⟩) ?_
                 rotate_left 1
                 · intro u
                   go_simp
                   try simp only [d1]
                   try simp only [d2]
                   try simp only [d3]
                   try with_reducible rfl
                 simp only [Act.put, List.setIfInBounds_toArray, List.set_cons_zero, List.set_cons_succ])
              | (refine mv_free _ (Or.inr ⟨by rfl, rfl⟩) (⟨c1, c2⟩) ?_
                 simp only [Act.put, List.setIfInBounds_toArray, List.set_cons_zero, List.set_cons_succ])
          refine mv_done ?_
          go_wp2
          go_roundw
          case rel => exact ⟨k + 1, by omega, by rw [hu.out]; simp, by rw [hd.out]; simp, by go_num, hb2.drew.drew, Lib.hid m2.out.drew.drew⟩
          case measure => simp [intOf]; omega
    · have hge : (H.length : Int) ≤ (k : Int) := by omega
      obtain rfl : k = H.length := by omega
      obtain ⟨d, ed⟩ : ∃ d, d = H.length - sz.toNat := ⟨_, rfl⟩
      have hl := rsL_len sz H
      have AT := fun i hi => rsL_at sz H (i := i) hi
      rw [← ed] at hl AT
      have UP := fun h2 => rs_up (sz := sz) (H := H) h2
      have DN := fun h2 => rs_dn (sz := sz) (H := H) h2
      have m0 := hS.out
      have few : ¬ 2 ≤ (rsL sz H H.length).length ↔ H.length < 2 := by omega
      generalize upN H H.length = p at *
      generalize dnN H H.length = q at *
      generalize rsL sz H H.length = N at *
      have w1 : IntKind.i64.wrap ((H.length : Int) - sz) = (H.length : Int) - sz := by rw [IntKind.wrap_i64]; omega
      have w2 : (if sz < (H.length : Int) then (H.length : Int) - sz else 0) = (d : Int) := by split <;> omega
      replace AT := Lib.hid AT
      replace UP := Lib.hid UP
      replace DN := Lib.hid DN
      replace m0 := Lib.hid m0
      replace few := Lib.hid few
      replace ed := Lib.hid ed
      clear hS hge hlt hk PT
      go_wp2_with fail
      go_loopw [10, 11, 12] (fun lo hi i v => ∃ k : Nat, k ≤ N.length ∧ lo = .int .i64 (loN N k) ∧ hi = .int .i64 (hiN N k) ∧ i = .int .i64 ((d + k : Nat) : Int) ∧ wr = v) (fun _ _ i _ => H.length - (intOf i).toNat)
      case atStart => exact ⟨0, by omega, rfl, rfl, rfl, rfl⟩
      case round =>
        obtain ⟨k, hk, rfl, rfl, rfl, rfl⟩ := hrel
        by_cases hlt : k < N.length
        · obtain ⟨br, or_, ea, -, c1⟩ := (RW.out _ hb).at (show d + k < H.length by omega)
          subst ea
          have ea := Lib.hid (AT.out k hlt)
          generalize H.getD (d + k) 0 = y at *
          have el : loN N (k + 1) = min (loN N k) (N.getD k 0) := rfl
          have eh : hiN N (k + 1) = max (hiN N k) (N.getD k 0) := rfl
          rw [ea.out] at el eh
          obtain ⟨Y, eY⟩ : ∃ Y, Y = trH y := ⟨_, rfl⟩
          rw [← eY] at el eh
          have CY := fun u => CL.out y u
          rw [← eY] at CY
          obtain ⟨lo', el'⟩ : ∃ t, t = loN N (k + 1) := ⟨_, rfl⟩
          obtain ⟨hi', eh'⟩ : ∃ t, t = hiN N (k + 1) := ⟨_, rfl⟩
          rw [← el'] at el
          rw [← eh'] at eh
          have v1 : (if Y < loN N k then Y else loN N k) = lo' := by rw [el]; omega
          have v3 : (if loN N k < Y then loN N k else Y) = lo' := by rw [el]; omega
          have v4 : (if Y < hiN N k then hiN N k else Y) = hi' := by rw [eh]; omega
          have v2 : (if hiN N k < Y then Y else hiN N k) = hi' := by rw [eh]; omega
          generalize loN N k = lo at *
          generalize hiN N k = hi at *
          replace el := Lib.hid el
          replace eh := Lib.hid eh
          replace el' := Lib.hid el'
          replace eh' := Lib.hid eh'
          replace eY := Lib.hid eY
          replace CY := Lib.hid CY
          obtain ⟨i, ei⟩ : ∃ i, i = d + k := ⟨_, rfl⟩
          rw [← ei] at c1 ⊢
          have h1 : (i : Int) < (H.length : Int) := by omega
          have h0 : 0 ≤ (i : Int) := by omega
          replace ei := Lib.hid ei
          go_wp2_with fail
          refine (CY.out _).mono ?_
          rintro e w3 ⟨rfl, rfl⟩
          go_wp2
          go_roundw
          case rel => exact ⟨k + 1, by omega, by rw [el'.out], by rw [eh'.out], by rw [ei.out]; go_num, trivial⟩
          case measure => have := ei.out; simp [intOf]; omega
        · obtain rfl : k = N.length := by omega
          obtain ⟨i, ei⟩ : ∃ i, i = d + N.length := ⟨_, rfl⟩
          rw [← ei]
          have hge : (H.length : Int) ≤ (i : Int) := by have := ed.out; omega
          by_cases h2 : 2 ≤ N.length
          · have S1 := SL.out b N _ m0.out h2
            have M1 := MI.out b N _ m0.out h2
            have up := UP.out h2
            have dn := DN.out h2
            have mb := trM_between h2
            generalize trS N = S at *
            generalize trM N = M at *
            generalize loN N N.length = lo at *
            generalize hiN N N.length = hi at *
            replace S1 := Lib.hid S1
            replace M1 := Lib.hid M1
            obtain ⟨mb1, mb2⟩ := mb
            cases p <;> cases q
            all_goals
              (try have up := up rfl)
              (try have dn := dn rfl)
              go_wp2_with fail
              refine S1.out.mono ?_
              rintro e w3 ⟨rfl, rfl⟩
              go_wp2_with fail
              refine M1.out.mono ?_
              rintro e w3 ⟨rfl, rfl⟩
              go_wp2_with fail
              refine (LV.out _).mono ?_
              rintro e w20 ⟨rfl, hb20⟩
              have hb21 := Lib.hid (hb.trans (hb20.mono (hb).size))
              clear hb20
              go_wp2
              go_ret
              exact ⟨rfl, hb21.out⟩
          · have f2 : (H.length : Int) < 2 := by have := few.out.1 h2; omega
            have S1 := Lib.hid (SF.out b N _ m0.out (by omega))
            have M1 := Lib.hid (MF.out b N _ m0.out (by omega))
            go_wp2_with fail
            refine S1.out.mono ?_
            rintro e w3 ⟨rfl, rfl⟩
            go_wp2_with fail
            refine M1.out.mono ?_
            rintro e w3 ⟨rfl, rfl⟩
            go_wp2_with fail
            refine (LV.out _).mono ?_
            rintro e w20 ⟨rfl, hb20⟩
            have hb21 := Lib.hid (hb.trans (hb20.mono (hb).size))
            clear hb20
            go_wp2
            go_ret
            exact ⟨rfl, hb21.out⟩
end Go.Proofs.Yticecjjlafmclaa
