/- The law CurveTells, walked. -/
import Derived.Test.YtmmenpaodofahaaCurve12
import Derived.Test.YtmmenpaodofahaaCurve8a
namespace Go.Proofs.Ytmmenpaodofahaa
open Go.ChangeShapes Go.WideShapes Go.ChangeAt Go.RowKit
set_option linter.unusedVariables false
set_option linter.unusedSimpArgs false
set_option maxRecDepth 100000 in
set_option maxHeartbeats 8000000 in
theorem law_CurveTells (ax ay : Option Addr) (cx cy : Nat) (X Y : List Int) (x : Int) (al : Option Addr) (cl : Nat) (L : List Int) (w : World) (hx : RowIs .i64 w ax X) (hy : RowIs .i64 w ay Y) (hl : RowIs .i64 w al L) :
    Calls Try.prog 3 #[.agg #[.slice ax X.length cx, .slice ay Y.length cy], .int .i64 x, .slice al L.length cl] w fun e w' => e = .returned (.bool true) ∧ Below w.heap.size w w' := by
  have LV := Lib.hid (fun u => lives05 u)
  have GR := fun u => cgreat_any ax ay cx cy X Y u
  obtain ⟨V, eV, hb0, hz, hcs⟩ := crv_box w ax ay cx cy X Y
  have W := fun u (h : Below (w.heap.size + 1) V u) => show Below w.heap.size w u from hb0.trans (h.mono (by omega))
  cases hgr : (decide (300 < X.length) || decide (300 < Y.length))
  case true =>
    rw [hgr] at GR
    replace GR := Lib.hid GR
    clear hgr hx hy hl W
    replace hb0 := Lib.hid hb0
    replace hz := Lib.hid hz
    replace hcs := Lib.hid hcs
    replace eV := Lib.hid eV
    go_enter Try.func3, Try.ntmps3
    go_wp2_with fail
    rw [← eV.out]
    obtain ⟨k0, k1⟩ := hcs.out _ (Below.refl _ _)
    go_wp2_with fail
    refine (GR.out _).mono ?_
    rintro e w1 ⟨rfl, hb1⟩
    have hb1 := (Below.refl (w.heap.size + 1) V).trans (hb1.mono (Nat.le_of_eq hz.out.symm))
    obtain ⟨k0, k1⟩ := hcs.out _ hb1
    go_wp2_with fail
    refine (LV.out _).mono ?_
    rintro e w2 ⟨rfl, hb2⟩
    have hb2 := hb1.trans (hb2.mono (by have := hb1.size; have := hz.out; omega))
    clear hb1
    go_wp2
    go_ret
    exact ⟨rfl, hb0.out.trans (hb2.mono (by omega))⟩
  rw [hgr] at GR
  replace GR := Lib.hid GR
  have hX : X.length ≤ 300 := by simp at hgr; omega
  have hY : Y.length ≤ 300 := by simp at hgr; omega
  clear hgr
  by_cases hL : 100 < L.length
  · have dl : (100 : Int) < (L.length : Int) := by omega
    clear hx hy hl W hL hX hY
    replace hb0 := Lib.hid hb0
    replace hz := Lib.hid hz
    replace hcs := Lib.hid hcs
    replace eV := Lib.hid eV
    go_enter Try.func3, Try.ntmps3
    go_wp2_with fail
    rw [← eV.out]
    obtain ⟨k0, k1⟩ := hcs.out _ (Below.refl _ _)
    go_wp2_with fail
    refine (GR.out _).mono ?_
    rintro e w1 ⟨rfl, hb1⟩
    have hb1 := (Below.refl (w.heap.size + 1) V).trans (hb1.mono (Nat.le_of_eq hz.out.symm))
    obtain ⟨k0, k1⟩ := hcs.out _ hb1
    go_wp2_with fail
    refine (LV.out _).mono ?_
    rintro e w2 ⟨rfl, hb2⟩
    have hb2 := hb1.trans (hb2.mono (by have := hb1.size; have := hz.out; omega))
    clear hb1
    go_wp2
    go_ret
    exact ⟨rfl, hb0.out.trans (hb2.mono (by omega))⟩
  have dl : (L.length : Int) ≤ 100 := by omega
  have CR := fun u (h : Below (w.heap.size + 1) V u) => cright_any ax ay cx cy X Y u (hx.below (W u h)) (hy.below (W u h)) hX hY
  have RG := fun u (h : Below (w.heap.size + 1) V u) => rright5_any ax ay cx cy X Y u (hx.below (W u h)) (hy.below (W u h)) hX hY
  cases hg : rgtB X Y
  case false =>
    have AT := fun u (h : Below (w.heap.size + 1) V u) => cat5_any ax ay cx cy X Y x 0 u (hx.below (W u h)) (hy.below (W u h)) hX hY (fun h => by rw [hg] at h; cases h)
    have MP := Lib.hid (fun u (h : Below (w.heap.size + 1) V u) => cmap_no ax ay cx cy X Y al cl L u (hx.below (W u h)) (hy.below (W u h)) hX hY hg)
    rw [hg] at CR RG AT
    simp only [Bool.false_eq_true, if_false] at AT
    replace CR := Lib.hid CR
    replace RG := Lib.hid RG
    replace AT := Lib.hid AT
    clear hX hY W hx hy hl hg hL
    replace hb0 := Lib.hid hb0
    replace hz := Lib.hid hz
    replace hcs := Lib.hid hcs
    replace eV := Lib.hid eV
    go_enter Try.func3, Try.ntmps3
    go_wp2_with fail
    rw [← eV.out]
    obtain ⟨k0, k1⟩ := hcs.out _ (Below.refl _ _)
    go_wp2_with fail
    refine (GR.out _).mono ?_
    rintro e w1 ⟨rfl, hb1⟩
    have hb1 := (Below.refl (w.heap.size + 1) V).trans (hb1.mono (Nat.le_of_eq hz.out.symm))
    obtain ⟨k0, k1⟩ := hcs.out _ hb1
    go_wp2_with fail
    refine (AT.out _ hb1).mono ?_
    rintro e w2 ⟨rfl, hb2⟩
    have hb2 := hb1.trans (hb2.mono (by have := hb1.size; have := hz.out; omega))
    clear hb1
    obtain ⟨k0, k1⟩ := hcs.out _ hb2
    go_wp2_with fail
    refine (MP.out _ hb2).mono ?_
    rintro e w3 ⟨rfl, hb3⟩
    have hb3 := hb2.trans (hb3.mono (by have := hb2.size; have := hz.out; omega))
    clear hb2
    obtain ⟨k0, k1⟩ := hcs.out _ hb3
    go_wp2_with fail
    refine region_moves (fun u => u.cell? ⟨w.heap.size, 0, none⟩ = some (.slice ax X.length cx) ∧ u.cell? ⟨w.heap.size, 1, none⟩ = some (.slice ay Y.length cy)) [] [(.take, 0), (.take, 2), (.step, 1), (.step, 3), (.free, 4), (.free, 5), (.free, 6), (.take, 7), (.step, 8), (.free, 9), (.free, 10), (.free, 11), (.free, 12), (.free, 13), (.free, 14), (.free, 15)] _ (by kernel_rfl) (by kernel_rfl) (by kernel_rfl) (by kernel_rfl) (by decide) rfl (fun _ _ _ _ _ h => h) ?_
    simp only [List.filterMap_cons, List.filterMap_nil, List.getElem?_toArray, List.getElem?_cons_zero, List.getElem?_cons_succ, Option.map_some]
    iterate 2
      first
        | (refine mv_take ?_ (Or.inl ⟨by rfl, ?_⟩) (⟨k0, k1⟩) ?_
           rotate_left 1
           · intro u hu
             (try dsimp only at hu)
             go_simp
             try with_reducible rfl
           simp only [Act.put, List.setIfInBounds_toArray, List.set_cons_zero, List.set_cons_succ])
        | (refine mv_take _ (Or.inr ⟨by rfl, rfl⟩) (⟨k0, k1⟩) ?_
           simp only [Act.put, List.setIfInBounds_toArray, List.set_cons_zero, List.set_cons_succ])
    refine mv_step (fun K hK => ?_)
    go_simp
    refine (CR.out _ (hb3.drew)).mono ?_
    rintro e w4 ⟨rfl, hb4⟩
    have hb4 := (hb3.drew).trans (hb4.mono (by have := hb3.size; have := hz.out; show _ ≤ w3.heap.size; omega))
    clear hb3
    obtain ⟨k0, k1⟩ := hcs.out _ hb4
    go_wp2_with fail
    refine hK.out _ _ _ (fun u hu => hu) (⟨k0, k1⟩) ?_
    clear hK K
    refine mv_step (fun K hK => ?_)
    go_simp
    refine (RG.out _ (hb4)).mono ?_
    rintro e w5 ⟨rfl, hb5⟩
    have hb5 := (hb4).trans (hb5.mono (by have := hb4.size; have := hz.out; show _ ≤ w4.heap.size; omega))
    clear hb4
    obtain ⟨k0, k1⟩ := hcs.out _ hb5
    go_wp2_with fail
    refine hK.out _ _ _ (fun u hu => hu) (⟨k0, k1⟩) ?_
    clear hK K
    iterate 3
      first
        | (refine mv_free ?_ (Or.inl ⟨by rfl, ?_⟩) (⟨k0, k1⟩) ?_
           rotate_left 1
           · intro u
             go_simp
             try simp only [d1]
             try simp only [d2]
             try simp only [d3]
             try with_reducible rfl
           simp only [Act.put, List.setIfInBounds_toArray, List.set_cons_zero, List.set_cons_succ])
        | (refine mv_free _ (Or.inr ⟨by rfl, rfl⟩) (⟨k0, k1⟩) ?_
           simp only [Act.put, List.setIfInBounds_toArray, List.set_cons_zero, List.set_cons_succ])
    iterate 1
      first
        | (refine mv_take ?_ (Or.inl ⟨by rfl, ?_⟩) (⟨k0, k1⟩) ?_
           rotate_left 1
           · intro u hu
             (try dsimp only at hu)
             go_simp
             try with_reducible rfl
           simp only [Act.put, List.setIfInBounds_toArray, List.set_cons_zero, List.set_cons_succ])
        | (refine mv_take _ (Or.inr ⟨by rfl, rfl⟩) (⟨k0, k1⟩) ?_
           simp only [Act.put, List.setIfInBounds_toArray, List.set_cons_zero, List.set_cons_succ])
    refine mv_step (fun K hK => ?_)
    go_simp
    refine (RG.out _ (hb5)).mono ?_
    rintro e w6 ⟨rfl, hb6⟩
    have hb6 := (hb5).trans (hb6.mono (by have := hb5.size; have := hz.out; show _ ≤ w5.heap.size; omega))
    clear hb5
    obtain ⟨k0, k1⟩ := hcs.out _ hb6
    go_wp2_with fail
    refine hK.out _ _ _ (fun u hu => hu) (⟨k0, k1⟩) ?_
    clear hK K
    iterate 7
      first
        | (refine mv_free ?_ (Or.inl ⟨by rfl, ?_⟩) (⟨k0, k1⟩) ?_
           rotate_left 1
           · intro u
             go_simp
             try simp only [d1]
             try simp only [d2]
             try simp only [d3]
             try with_reducible rfl
           simp only [Act.put, List.setIfInBounds_toArray, List.set_cons_zero, List.set_cons_succ])
        | (refine mv_free _ (Or.inr ⟨by rfl, rfl⟩) (⟨k0, k1⟩) ?_
           simp only [Act.put, List.setIfInBounds_toArray, List.set_cons_zero, List.set_cons_succ])
    refine mv_done ?_
    go_wp2_with fail
    refine (LV.out _).mono ?_
    rintro e w7 ⟨rfl, hb7⟩
    have hb7 := hb6.trans (hb7.mono (by have := hb6.size; have := hz.out; omega))
    clear hb6
    go_wp2
    go_ret
    exact ⟨rfl, hb0.out.trans (hb7.mono (by omega))⟩
  case true =>
  obtain ⟨m1, m2, m3, g1, g2, g3⟩ := rgtB_at hg
  obtain ⟨K, hK⟩ := Classical.skolem.1 (fun x => crK_ex g1 x)
  obtain ⟨f, hf⟩ : ∃ f : Int → Int, f = fun x => crV X Y x (K x) := ⟨_, rfl⟩
  have hfx : ∀ x, crV X Y x (K x) = f x := fun x => by rw [hf]
  have AT := fun u (h : Below (w.heap.size + 1) V u) => cat5_any ax ay cx cy X Y x (K x) u (hx.below (W u h)) (hy.below (W u h)) hX hY (fun _ => hK x)
  have MP := fun u (h : Below (w.heap.size + 1) V u) => cmap_ok ax ay cx cy X Y K hK al cl L u (hx.below (W u h)) (hy.below (W u h)) (hl.below (W u h)) hX hY (by omega) hg
  have RA : ∀ x u, Below (w.heap.size + 1) V u → Calls Try.prog 21 #[.agg #[.slice ax X.length cx, .slice ay Y.length cy], .int .i64 x] u fun e w' => e = .returned (.int .i64 (f x)) ∧ Below u.heap.size u w' := fun x u h => by
    rw [← hfx]
    exact rat5_any ax ay cx cy X Y x (K x) u (hx.below (W u h)) (hy.below (W u h)) hg (hK x)
  rw [hg] at CR RG AT
  rw [hfx] at AT
  rw [← hf] at MP
  simp only [if_true] at AT
  replace CR := Lib.hid CR
  replace RG := Lib.hid RG
  replace AT := Lib.hid AT
  replace MP := Lib.hid MP
  replace RA := Lib.hid RA
  have RX := Lib.hid (RA.out x)
  have GL := Lib.hid (fun u (h : Below (w.heap.size + 1) V u) => hl.below (W u h))
  obtain ⟨y0, hy0⟩ : ∃ y, y = f x := ⟨_, rfl⟩
  rw [← hy0] at AT RX
  have d1 : (y0 != y0) = false := by simp
  have d2 : ((L.length : Int) != (L.length : Int)) = false := by simp
  clear hX hY W hx hy hl hg hL m1 m2 m3 g1 g2 g3 hK hf hfx hy0
  replace hb0 := Lib.hid hb0
  replace hz := Lib.hid hz
  replace hcs := Lib.hid hcs
  replace eV := Lib.hid eV
  go_enter Try.func3, Try.ntmps3
  go_wp2_with fail
  rw [← eV.out]
  obtain ⟨k0, k1⟩ := hcs.out _ (Below.refl _ _)
  go_wp2_with fail
  refine (GR.out _).mono ?_
  rintro e w1 ⟨rfl, hb1⟩
  have hb1 := (Below.refl (w.heap.size + 1) V).trans (hb1.mono (Nat.le_of_eq hz.out.symm))
  obtain ⟨k0, k1⟩ := hcs.out _ hb1
  go_wp2_with fail
  refine (AT.out _ hb1).mono ?_
  rintro e w2 ⟨rfl, hb2⟩
  have hb2 := hb1.trans (hb2.mono (by have := hb1.size; have := hz.out; omega))
  clear hb1
  obtain ⟨k0, k1⟩ := hcs.out _ hb2
  go_wp2_with fail
  refine (MP.out _ hb2).mono ?_
  rintro e w3 ⟨b, rfl, r1, -, hb3⟩
  have hb3 := hb2.trans (hb3.mono (by have := hb2.size; have := hz.out; omega))
  clear hb2
  replace r1 := Lib.hid r1
  obtain ⟨k0, k1⟩ := hcs.out _ hb3
  have hm3 := Below.refl w3.heap.size w3
  go_wp2_with fail
  refine region_moves (fun u => u.cell? ⟨w.heap.size, 0, none⟩ = some (.slice ax X.length cx) ∧ u.cell? ⟨w.heap.size, 1, none⟩ = some (.slice ay Y.length cy)) [] [(.take, 0), (.take, 2), (.step, 1), (.step, 3), (.free, 4), (.free, 5), (.free, 6), (.take, 7), (.step, 8), (.free, 9), (.free, 10), (.free, 11), (.free, 12), (.free, 13), (.free, 14), (.free, 15)] _ (by kernel_rfl) (by kernel_rfl) (by kernel_rfl) (by kernel_rfl) (by decide) rfl (fun _ _ _ _ _ h => h) ?_
  simp only [List.filterMap_cons, List.filterMap_nil, List.getElem?_toArray, List.getElem?_cons_zero, List.getElem?_cons_succ, Option.map_some]
  iterate 2
    first
      | (refine mv_take ?_ (Or.inl ⟨by rfl, ?_⟩) (⟨k0, k1⟩) ?_
         rotate_left 1
         · intro u hu
           (try dsimp only at hu)
           go_simp
           try with_reducible rfl
         simp only [Act.put, List.setIfInBounds_toArray, List.set_cons_zero, List.set_cons_succ])
      | (refine mv_take _ (Or.inr ⟨by rfl, rfl⟩) (⟨k0, k1⟩) ?_
         simp only [Act.put, List.setIfInBounds_toArray, List.set_cons_zero, List.set_cons_succ])
  refine mv_step (fun K hK => ?_)
  go_simp
  refine (CR.out _ (hb3.drew)).mono ?_
  rintro e w4 ⟨rfl, hb4⟩
  have hm4 := hm3.drew.trans (hb4.mono (by have := hm3.size; show _ ≤ w3.heap.size; omega))
  have hb4 := (hb3.drew).trans (hb4.mono (by have := hb3.size; have := hz.out; show _ ≤ w3.heap.size; omega))
  clear hb3
  obtain ⟨k0, k1⟩ := hcs.out _ hb4
  go_wp2_with fail
  refine hK.out _ _ _ (fun u hu => hu) (⟨k0, k1⟩) ?_
  clear hK K
  refine mv_step (fun K hK => ?_)
  go_simp
  refine (RG.out _ (hb4)).mono ?_
  rintro e w5 ⟨rfl, hb5⟩
  have hm5 := hm4.trans (hb5.mono (by have := hm4.size; omega))
  have hb5 := (hb4).trans (hb5.mono (by have := hb4.size; have := hz.out; show _ ≤ w4.heap.size; omega))
  clear hb4
  obtain ⟨k0, k1⟩ := hcs.out _ hb5
  go_wp2_with fail
  refine hK.out _ _ _ (fun u hu => hu) (⟨k0, k1⟩) ?_
  clear hK K
  iterate 3
    first
      | (refine mv_free ?_ (Or.inl ⟨by rfl, ?_⟩) (⟨k0, k1⟩) ?_
         rotate_left 1
         · intro u
           go_simp
           try simp only [d1]
           try simp only [d2]
           try simp only [d3]
           try with_reducible rfl
         simp only [Act.put, List.setIfInBounds_toArray, List.set_cons_zero, List.set_cons_succ])
      | (refine mv_free _ (Or.inr ⟨by rfl, rfl⟩) (⟨k0, k1⟩) ?_
         simp only [Act.put, List.setIfInBounds_toArray, List.set_cons_zero, List.set_cons_succ])
  iterate 1
    first
      | (refine mv_take ?_ (Or.inl ⟨by rfl, ?_⟩) (⟨k0, k1⟩) ?_
         rotate_left 1
         · intro u hu
           (try dsimp only at hu)
           go_simp
           try with_reducible rfl
         simp only [Act.put, List.setIfInBounds_toArray, List.set_cons_zero, List.set_cons_succ])
      | (refine mv_take _ (Or.inr ⟨by rfl, rfl⟩) (⟨k0, k1⟩) ?_
         simp only [Act.put, List.setIfInBounds_toArray, List.set_cons_zero, List.set_cons_succ])
  refine mv_step (fun K hK => ?_)
  go_simp
  refine (RG.out _ (hb5)).mono ?_
  rintro e w6 ⟨rfl, hb6⟩
  have hm6 := hm5.trans (hb6.mono (by have := hm5.size; omega))
  have hb6 := (hb5).trans (hb6.mono (by have := hb5.size; have := hz.out; show _ ≤ w5.heap.size; omega))
  clear hb5
  obtain ⟨k0, k1⟩ := hcs.out _ hb6
  go_wp2_with fail
  refine hK.out _ _ _ (fun u hu => hu) (⟨k0, k1⟩) ?_
  clear hK K
  iterate 7
    first
      | (refine mv_free ?_ (Or.inl ⟨by rfl, ?_⟩) (⟨k0, k1⟩) ?_
         rotate_left 1
         · intro u
           go_simp
           try simp only [d1]
           try simp only [d2]
           try simp only [d3]
           try with_reducible rfl
         simp only [Act.put, List.setIfInBounds_toArray, List.set_cons_zero, List.set_cons_succ])
      | (refine mv_free _ (Or.inr ⟨by rfl, rfl⟩) (⟨k0, k1⟩) ?_
         simp only [Act.put, List.setIfInBounds_toArray, List.set_cons_zero, List.set_cons_succ])
  refine mv_done ?_
  go_wp2_with fail
  refine (RX.out _ hb6).mono ?_
  rintro e w7 ⟨rfl, hb7⟩
  have hm7 := hm6.trans (hb7.mono (by have := hm6.size; omega))
  have hb7 := hb6.trans (hb7.mono (by have := hb6.size; have := hz.out; omega))
  clear hb6
  obtain ⟨k0, k1⟩ := hcs.out _ hb7
  go_wp2_with fail
  go_loopw [11] (fun i v => ∃ j : Nat, j ≤ L.length ∧ i = .int .i64 (j : Int) ∧ Below (w.heap.size + 1) V v ∧ Hid (Below w3.heap.size w3 v)) (fun i _ => L.length - (intOf i).toNat)
  case atStart => exact ⟨0, by omega, rfl, hb7, Lib.hid hm7⟩
  case round =>
    clear hb7 hm3 hm4 hm5 hm6 hm7 k0 k1
    obtain ⟨j, hj, rfl, hb7, hm7⟩ := hrel
    obtain ⟨k0, k1⟩ := hcs.out _ hb7
    by_cases hlt : j < L.length
    · obtain ⟨bl, ol, ea, -, c1⟩ := (GL.out _ hb7).at hlt
      obtain ⟨bm, om, eb, -, c2⟩ := (r1.out.below hm7.out).at (show j < (L.map f).length by simpa using hlt)
      injection eb with eb
      injection eb with e1 e2
      subst e1 e2
      obtain ⟨q, hq⟩ : ∃ q, L.getD j 0 = q := ⟨_, rfl⟩
      obtain ⟨y, hy⟩ : ∃ y, (L.map f).getD j 0 = y := ⟨_, rfl⟩
      have RJ := RA.out q
      rw [show f q = y by rw [← hy, ← hq]; simp [List.getD, hlt]] at RJ
      rw [hq] at c1
      rw [hy, Nat.zero_add] at c2
      replace hq := Lib.hid hq
      replace hy := Lib.hid hy
      replace RJ := Lib.hid RJ
      have hlt1 : (j : Int) < (L.length : Int) := by omega
      have hlt0 : 0 ≤ (j : Int) := by omega
      subst ea
      have d3 : (y != y) = false := by simp
      go_wp2_with fail
      refine region_moves (fun u => u.cell? ⟨w.heap.size, 0, none⟩ = some (.slice ax X.length cx) ∧ u.cell? ⟨w.heap.size, 1, none⟩ = some (.slice ay Y.length cy) ∧ u.cell? ⟨b, j, none⟩ = some (.int .i64 y) ∧ u.cell? ⟨bl, ol + j, none⟩ = some (.int .i64 q)) [] [(.free, 0), (.free, 1), (.free, 2), (.take, 3), (.take, 4), (.free, 5), (.free, 6), (.free, 7), (.take, 8), (.step, 9), (.free, 10)] _ (by kernel_rfl) (by kernel_rfl) (by kernel_rfl) (by kernel_rfl) (by decide) rfl (fun _ _ _ _ _ h => h) ?_
      simp only [List.filterMap_cons, List.filterMap_nil, List.getElem?_toArray, List.getElem?_cons_zero, List.getElem?_cons_succ, Option.map_some]
      iterate 3
        first
          | (refine mv_free ?_ (Or.inl ⟨by rfl, ?_⟩) (⟨k0, k1, c2, c1⟩) ?_
             rotate_left 1
             · intro u
               go_simp
               try simp only [d1]
               try simp only [d2]
               try simp only [d3]
               try with_reducible rfl
             simp only [Act.put, List.setIfInBounds_toArray, List.set_cons_zero, List.set_cons_succ])
          | (refine mv_free _ (Or.inr ⟨by rfl, rfl⟩) (⟨k0, k1, c2, c1⟩) ?_
             simp only [Act.put, List.setIfInBounds_toArray, List.set_cons_zero, List.set_cons_succ])
      iterate 2
        first
          | (refine mv_take ?_ (Or.inl ⟨by rfl, ?_⟩) (⟨k0, k1, c2, c1⟩) ?_
             rotate_left 1
             · intro u hu
               (try dsimp only at hu)
               go_simp
               try with_reducible rfl
             simp only [Act.put, List.setIfInBounds_toArray, List.set_cons_zero, List.set_cons_succ])
          | (refine mv_take _ (Or.inr ⟨by rfl, rfl⟩) (⟨k0, k1, c2, c1⟩) ?_
             simp only [Act.put, List.setIfInBounds_toArray, List.set_cons_zero, List.set_cons_succ])
      iterate 3
        first
          | (refine mv_free ?_ (Or.inl ⟨by rfl, ?_⟩) (⟨k0, k1, c2, c1⟩) ?_
             rotate_left 1
             · intro u
               go_simp
               try simp only [d1]
               try simp only [d2]
               try simp only [d3]
               try with_reducible rfl
             simp only [Act.put, List.setIfInBounds_toArray, List.set_cons_zero, List.set_cons_succ])
          | (refine mv_free _ (Or.inr ⟨by rfl, rfl⟩) (⟨k0, k1, c2, c1⟩) ?_
             simp only [Act.put, List.setIfInBounds_toArray, List.set_cons_zero, List.set_cons_succ])
      iterate 1
        first
          | (refine mv_take ?_ (Or.inl ⟨by rfl, ?_⟩) (⟨k0, k1, c2, c1⟩) ?_
             rotate_left 1
             · intro u hu
               (try dsimp only at hu)
               go_simp
               try with_reducible rfl
             simp only [Act.put, List.setIfInBounds_toArray, List.set_cons_zero, List.set_cons_succ])
          | (refine mv_take _ (Or.inr ⟨by rfl, rfl⟩) (⟨k0, k1, c2, c1⟩) ?_
             simp only [Act.put, List.setIfInBounds_toArray, List.set_cons_zero, List.set_cons_succ])
      refine mv_step (fun K hK => ?_)
      go_simp
      refine (RJ.out _ hb7.drew).mono ?_
      rintro e w8 ⟨rfl, hb8⟩
      have hm8 := Lib.hid (hm7.out.drew.trans (hb8.mono (by have := hm7.out.size; show _ ≤ wr.heap.size; omega)))
      have hb8 := hb7.drew.trans (hb8.mono (by have := hb7.size; have := hz.out; show _ ≤ wr.heap.size; omega))
      obtain ⟨k0, k1⟩ := hcs.out _ hb8
      obtain ⟨bl', ol', ea, -, c1⟩ := (GL.out _ hb8).at hlt
      injection ea with ea
      injection ea with e1 e2
      subst e1 e2
      obtain ⟨bm, om, eb, -, c2⟩ := (r1.out.below hm8.out).at (show j < (L.map f).length by simpa using hlt)
      injection eb with eb
      injection eb with e1 e2
      subst e1 e2
      rw [hy.out, Nat.zero_add] at c2
      rw [hq.out] at c1
      go_wp2_with fail
      refine hK.out _ _ _ (fun u hu => hu) (⟨k0, k1, c2, c1⟩) ?_
      clear hK K
      iterate 1
        first
          | (refine mv_free ?_ (Or.inl ⟨by rfl, ?_⟩) (⟨k0, k1, c2, c1⟩) ?_
             rotate_left 1
             · intro u
               go_simp
               try simp only [d1]
               try simp only [d2]
               try simp only [d3]
               try with_reducible rfl
             simp only [Act.put, List.setIfInBounds_toArray, List.set_cons_zero, List.set_cons_succ])
          | (refine mv_free _ (Or.inr ⟨by rfl, rfl⟩) (⟨k0, k1, c2, c1⟩) ?_
             simp only [Act.put, List.setIfInBounds_toArray, List.set_cons_zero, List.set_cons_succ])
      refine mv_done ?_
      go_wp2
      go_roundw
      case rel => exact ⟨j + 1, by omega, by go_num, hb8, hm8⟩
      case measure => simp [intOf]; omega
    · have hge : (L.length : Int) ≤ (j : Int) := by omega
      go_wp2_with fail
      refine (LV.out _).mono ?_
      rintro e w8 ⟨rfl, hb8⟩
      have hb8 := hb7.trans (hb8.mono (by have := hb7.size; have := hz.out; omega))
      clear hb7
      go_wp2
      go_ret
      exact ⟨rfl, hb0.out.trans (hb8.mono (by omega))⟩
end Go.Proofs.Ytmmenpaodofahaa
