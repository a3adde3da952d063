/- Chapter 5: its example, how great a curve is; the law CurveBetween, walked. -/
import Derived.Test.YtmmenpaodofahaaCurve8a
namespace Go.Proofs.Ytmmenpaodofahaa
open Go.ChangeShapes Go.WideShapes Go.ChangeAt Go.RowKit
set_option linter.unusedVariables false
set_option linter.unusedSimpArgs false
theorem crx_box (w : World) (ax ay : Option Addr) (cx cy : Nat) (X Y : List Int) (x0 x1 : Int) : ∃ V, V = ((w.alloc (.cells #[.slice ax X.length cx, .slice ay Y.length cy] 24)).alloc (.cells #[.int .i64 x0, .int .i64 x1] 39)) ∧ Below w.heap.size w V ∧ V.heap.size = w.heap.size + 2 ∧ ∀ u, Below (w.heap.size + 2) V u → u.cell? ⟨w.heap.size, 0, none⟩ = some (.slice ax X.length cx) ∧ u.cell? ⟨w.heap.size, 1, none⟩ = some (.slice ay Y.length cy) ∧ u.cell? ⟨w.heap.size + 1, 0, none⟩ = some (.int .i64 x0) ∧ u.cell? ⟨w.heap.size + 1, 1, none⟩ = some (.int .i64 x1) :=
  ⟨_, rfl, (by repeat (first | exact Below.refl _ _ | assumption | apply Below.drew | apply below_drewN | (refine Below.alloc ?_ (by first | exact Nat.le_refl _ | omega | (simp <;> omega)) _) | (refine Below.setCell ?_ (by first | exact Nat.le_refl _ | omega | (simp <;> omega)) _))), by simp, fun u hu => ⟨(bc hu (by omega)).trans (by go_simp), (bc hu (by omega)).trans (by go_simp), (bc hu (by omega)).trans (by go_simp), (bc hu (by omega)).trans (by go_simp)⟩⟩
set_option maxRecDepth 100000 in
set_option maxHeartbeats 8000000 in
theorem law_CurveBetween (ax ay : Option Addr) (cx cy : Nat) (X Y : List Int) (x0 x1 i : Int) (w : World) (hx : RowIs .i64 w ax X) (hy : RowIs .i64 w ay Y) :
    Calls Try.prog 5 #[.agg #[.slice ax X.length cx, .slice ay Y.length cy], .agg #[.int .i64 x0, .int .i64 x1], .int .i64 i] w fun e w' => e = .returned (.bool true) ∧ Below w.heap.size w w' := by
  have LV := Lib.hid (fun u => lives05 u)
  have GR := fun u => cgreat_any ax ay cx cy X Y u
  obtain ⟨V, eV, hb0, hz, hcs⟩ := crx_box w ax ay cx cy X Y x0 x1
  have W := fun u (h : Below (w.heap.size + 2) V u) => show Below w.heap.size w u from hb0.trans (h.mono (by omega))
  cases hgr : (decide (300 < X.length) || decide (300 < Y.length))
  · rw [hgr] at GR
    replace GR := Lib.hid GR
    have hX : X.length ≤ 300 := by simp at hgr; omega
    have hY : Y.length ≤ 300 := by simp at hgr; omega
    have RR := fun u (h : Below (w.heap.size + 2) V u) => rright5_any ax ay cx cy X Y u (hx.below (W u h)) (hy.below (W u h)) hX hY
    have BD := fun u (h : Below (w.heap.size + 2) V u) => cbounds_any ax ay cx cy X Y u (hx.below (W u h)) (hy.below (W u h)) hX hY
    have RI := fun u (h : Below (w.heap.size + 2) V u) => crises_any ax ay cx cy X Y u (hx.below (W u h)) (hy.below (W u h)) hX hY
    cases hg : rgtB X Y
    · rw [hg] at RR
      replace RR := Lib.hid RR
      clear hgr hX hY BD RI W hx hy hg
      replace hb0 := Lib.hid hb0
      replace hz := Lib.hid hz
      replace hcs := Lib.hid hcs
      replace eV := Lib.hid eV
      go_enter Try.func5, Try.ntmps5
      go_wp2_with fail
      rw [← eV.out]
      obtain ⟨k0, k1, k2, k3⟩ := hcs.out _ (Below.refl _ _)
      go_wp2_with fail
      refine (GR.out _).mono ?_
      rintro e w1 ⟨rfl, hb1⟩
      have hb1 := (Below.refl (w.heap.size + 2) V).trans (hb1.mono (Nat.le_of_eq hz.out.symm))
      obtain ⟨k0, k1, k2, k3⟩ := hcs.out _ hb1
      go_wp2_with fail
      refine (RR.out _ hb1).mono ?_
      rintro e w2 ⟨rfl, hb2⟩
      have hb2 := hb1.trans (hb2.mono (by have := hb1.size; have := hz.out; omega))
      clear hb1
      obtain ⟨k0, k1, k2, k3⟩ := hcs.out _ hb2
      go_wp2_with fail
      refine (LV.out _).mono ?_
      rintro e w3 ⟨rfl, hb3⟩
      have hb3 := hb2.trans (hb3.mono (by have := hb2.size; have := hz.out; omega))
      clear hb2
      go_wp2
      go_ret
      exact ⟨rfl, hb0.out.trans (hb3.mono (by omega))⟩
    · obtain ⟨n1, n2, n3, g1, g2, g3⟩ := rgtB_at hg
      obtain ⟨m0, hk0⟩ := crK_ex g1 x0
      obtain ⟨m1, hk1⟩ := crK_ex g1 x1
      have A0 := fun u (h : Below (w.heap.size + 2) V u) => cat5_any ax ay cx cy X Y x0 m0 u (hx.below (W u h)) (hy.below (W u h)) hX hY (fun _ => hk0)
      have A1 := fun u (h : Below (w.heap.size + 2) V u) => cat5_any ax ay cx cy X Y x1 m1 u (hx.below (W u h)) (hy.below (W u h)) hX hY (fun _ => hk1)
      have AK := fun t mt (hmt : CrK X (X.getD t 0) mt) u (h : Below (w.heap.size + 2) V u) => cat5_any ax ay cx cy X Y (X.getD t 0) mt u (hx.below (W u h)) (hy.below (W u h)) hX hY (fun _ => hmt)
      have i0 := crV_in hg hk0 (lo := mnP Y Y.length) (hi := mxP Y Y.length) (fun j hj => ⟨mnP_le Y _ j hj, mxP_le Y _ j hj⟩)
      have i1 := crV_in hg hk1 (lo := mnP Y Y.length) (hi := mxP Y Y.length) (fun j hj => ⟨mnP_le Y _ j hj, mxP_le Y _ j hj⟩)
      have mo := fun (h : ndB Y = true) (hh : x0 ≤ x1) => crV_mono hg h hk0 hk1 hh
      have mo2 := fun (h : ndB Y = true) (hh : x1 ≤ x0) => crV_mono hg h hk1 hk0 hh
      rw [hg] at RR BD RI A0 A1 AK
      simp only [if_true, Bool.and_true] at BD RI A0 A1 AK
      have atk := fun t (ht : t < X.length) mt (hmt : CrK X (X.getD t 0) mt) => crV_at hg ht hmt
      have ex := fun t => crK_ex g1 (X.getD t 0)
      have GX := Lib.hid (fun u (h : Below (w.heap.size + 2) V u) t (ht : t < X.length) => (hx.below (W u h)).at ht)
      have GY := Lib.hid (fun u (h : Below (w.heap.size + 2) V u) t (ht : t < X.length) => (hy.below (W u h)).at (show t < Y.length by omega))
      generalize crV X Y x0 m0 = a at *
      generalize crV X Y x1 m1 = b at *
      generalize mnP Y Y.length = lo at *
      generalize mxP Y Y.length = hi at *
      replace RR := Lib.hid RR
      replace BD := Lib.hid BD
      replace A0 := Lib.hid A0
      replace A1 := Lib.hid A1
      obtain ⟨c1, c2⟩ := i0
      obtain ⟨c3, c4⟩ := i1
      have e1 : decide (a < lo) = false := decide_eq_false (by omega)
      have e2 : decide (hi < a) = false := decide_eq_false (by omega)
      have e3 : decide (b < lo) = false := decide_eq_false (by omega)
      have e4 : decide (hi < b) = false := decide_eq_false (by omega)
      clear c1 c2 c3 c4
      have nl := Lib.hid (show (Y.length : Int) = (X.length : Int) by omega)
      clear hgr hX hY W hx hy hg hk0 hk1 g1 g2 g3 n1 n2
      replace n3 := Lib.hid n3
      have key : ∃ r : Bool, ndB Y = r ∧ (r = false ∨ (r = true ∧ decide (x0 ≤ x1) = true ∧ decide (b < a) = false ∧ decide (x1 ≤ x0) = true ∧ decide (a < b) = false) ∨ (r = true ∧ decide (x0 ≤ x1) = true ∧ decide (b < a) = false ∧ decide (x1 ≤ x0) = false) ∨ (r = true ∧ decide (x0 ≤ x1) = false ∧ decide (x1 ≤ x0) = true ∧ decide (a < b) = false)) := by
        refine ⟨ndB Y, rfl, ?_⟩
        cases hn : ndB Y
        · exact .inl rfl
        · rcases Int.lt_trichotomy x0 x1 with h | h | h
          · exact .inr (.inr (.inl ⟨rfl, decide_eq_true (by omega), decide_eq_false (by have := mo hn (by omega); omega), decide_eq_false (by omega)⟩))
          · exact .inr (.inl ⟨rfl, decide_eq_true (by omega), decide_eq_false (by have := mo hn (by omega); omega), decide_eq_true (by omega), decide_eq_false (by have := mo2 hn (by omega); omega)⟩)
          · exact .inr (.inr (.inr ⟨rfl, decide_eq_false (by omega), decide_eq_true (by omega), decide_eq_false (by have := mo2 hn (by omega); omega)⟩))
      obtain ⟨r, hr, key⟩ := key
      rw [hr] at RI
      replace RI := Lib.hid RI
      clear mo mo2 hr
      replace AK := Lib.hid AK
      replace ex := Lib.hid ex
      replace atk := Lib.hid atk
      have out : i < 0 ∨ (0 ≤ i ∧ (X.length : Int) ≤ i) ∨ ∃ t : Nat, t < X.length ∧ i = (t : Int) := by
        by_cases h1 : i < 0
        · exact .inl h1
        · by_cases h2 : (X.length : Int) ≤ i
          · exact .inr (.inl ⟨by omega, h2⟩)
          · exact .inr (.inr ⟨i.toNat, by omega, by omega⟩)
      replace hb0 := Lib.hid hb0
      replace hz := Lib.hid hz
      replace hcs := Lib.hid hcs
      replace eV := Lib.hid eV
      replace key := Lib.hid key
      replace out := Lib.hid out
      go_enter Try.func5, Try.ntmps5
      go_wp2_with fail
      rw [← eV.out]
      obtain ⟨k0, k1, k2, k3⟩ := hcs.out _ (Below.refl _ _)
      go_wp2_with fail
      refine (GR.out _).mono ?_
      rintro e w1 ⟨rfl, hb1⟩
      have hb1 := (Below.refl (w.heap.size + 2) V).trans (hb1.mono (Nat.le_of_eq hz.out.symm))
      obtain ⟨k0, k1, k2, k3⟩ := hcs.out _ hb1
      go_wp2_with fail
      refine (RR.out _ hb1).mono ?_
      rintro e w2 ⟨rfl, hb2⟩
      have hb2 := hb1.trans (hb2.mono (by have := hb1.size; have := hz.out; omega))
      clear hb1
      obtain ⟨k0, k1, k2, k3⟩ := hcs.out _ hb2
      go_wp2_with fail
      refine (BD.out _ hb2).mono ?_
      rintro e w3 ⟨rfl, hb3⟩
      have hb3 := hb2.trans (hb3.mono (by have := hb2.size; have := hz.out; omega))
      clear hb2
      obtain ⟨k0, k1, k2, k3⟩ := hcs.out _ hb3
      go_wp2_with fail
      refine (A0.out _ hb3).mono ?_
      rintro e w4 ⟨rfl, hb4⟩
      have hb4 := hb3.trans (hb4.mono (by have := hb3.size; have := hz.out; omega))
      clear hb3
      obtain ⟨k0, k1, k2, k3⟩ := hcs.out _ hb4
      go_wp2_with fail
      refine (A1.out _ hb4).mono ?_
      rintro e w5 ⟨rfl, hb5⟩
      have hb5 := hb4.trans (hb5.mono (by have := hb4.size; have := hz.out; omega))
      clear hb4
      obtain ⟨k0, k1, k2, k3⟩ := hcs.out _ hb5
      go_wp2_with fail
      refine (RI.out _ hb5).mono ?_
      rintro e w6 ⟨rfl, hb6⟩
      have hb6 := hb5.trans (hb6.mono (by have := hb5.size; have := hz.out; omega))
      clear hb5
      obtain ⟨k0, k1, k2, k3⟩ := hcs.out _ hb6
      clear GR RR BD A0 A1 RI
      rcases key.out with rfl | ⟨rfl, q1, q2, q3, q4⟩ | ⟨rfl, q1, q2, q3⟩ | ⟨rfl, q1, q2, q3⟩
      all_goals
        clear key
        go_upto_region 10 with (fail)
        rcases out.out with h | ⟨h, h2⟩ | ⟨t, ht, rfl⟩
        · clear AK ex atk GX GY out
          go_wp2_with fail
          refine (LV.out _).mono ?_
          rintro e w7 ⟨rfl, hb7⟩
          have hb7 := hb6.trans (hb7.mono (by have := hb6.size; have := hz.out; omega))
          clear hb6
          go_wp2
          go_ret
          exact ⟨rfl, hb0.out.trans (hb7.mono (by omega))⟩
        · clear AK ex atk GX GY out
          go_wp2_with fail
          refine (LV.out _).mono ?_
          rintro e w7 ⟨rfl, hb7⟩
          have hb7 := hb6.trans (hb7.mono (by have := hb6.size; have := hz.out; omega))
          clear hb6
          go_wp2
          go_ret
          exact ⟨rfl, hb0.out.trans (hb7.mono (by omega))⟩
        · obtain ⟨mt, hmt⟩ := ex.out t
          have AT := AK.out t mt hmt
          rw [atk.out t ht mt hmt] at AT
          have GX1 := Lib.hid (fun u h => GX.out u h t ht)
          have GY1 := Lib.hid (fun u h => GY.out u h t ht)
          generalize X.getD t 0 = p at *
          generalize Y.getD t 0 = q at *
          replace AT := Lib.hid AT
          have t1 : (t : Int) < (X.length : Int) := by omega
          have t2 : (t : Int) < (Y.length : Int) := by rw [nl.out]; exact t1
          have t0 : 0 ≤ (t : Int) := by omega
          clear AK ex atk GX GY hmt ht out
          obtain ⟨bx, ox, ea, -, c5⟩ := GX1.out _ hb6
          obtain ⟨b2, o2, eb, -, c6⟩ := GY1.out _ hb6
          subst ea eb
          go_wp2_with fail
          refine region_moves (fun u => u.cell? ⟨w.heap.size, 0, none⟩ = some (.slice (some ⟨bx, ox, none⟩) X.length cx) ∧ u.cell? ⟨w.heap.size, 1, none⟩ = some (.slice (some ⟨b2, o2, none⟩) Y.length cy) ∧ u.cell? ⟨w.heap.size + 1, 0, none⟩ = some (.int .i64 x0) ∧ u.cell? ⟨w.heap.size + 1, 1, none⟩ = some (.int .i64 x1) ∧ u.cell? ⟨bx, ox + t, none⟩ = some (.int .i64 p)) [] [(.take, 0), (.free, 1), (.take, 2), (.free, 3), (.free, 4), (.take, 5), (.step, 6), (.free, 7), (.free, 8), (.free, 9), (.free, 10), (.free, 11)] _ (by kernel_rfl) (by kernel_rfl) (by kernel_rfl) (by kernel_rfl) (by decide) rfl (fun _ _ _ _ _ h => h) ?_
          simp only [List.filterMap_cons, List.filterMap_nil, List.getElem?_toArray, List.getElem?_cons_zero, List.getElem?_cons_succ, Option.map_some]
          iterate 1
            first
              | (refine mv_take ?_ (Or.inl ⟨by rfl, ?_⟩) (⟨k0, k1, k2, k3, c5⟩) ?_
                 rotate_left 1
                 · intro u hu
                   (try dsimp only at hu)
                   go_simp
                   try with_reducible rfl
                 simp only [Act.put, List.setIfInBounds_toArray, List.set_cons_zero, List.set_cons_succ])
              | (refine mv_take _ (Or.inr ⟨by rfl, rfl⟩) (⟨k0, k1, k2, k3, c5⟩) ?_
                 simp only [Act.put, List.setIfInBounds_toArray, List.set_cons_zero, List.set_cons_succ])
          iterate 1
            first
              | (refine mv_free ?_ (Or.inl ⟨by rfl, ?_⟩) (⟨k0, k1, k2, k3, c5⟩) ?_
                 rotate_left 1
                 · intro u
                   go_simp
                   try simp only [d1]
                   try simp only [d2]
                   try simp only [d3]
                   try with_reducible rfl
                 simp only [Act.put, List.setIfInBounds_toArray, List.set_cons_zero, List.set_cons_succ])
              | (refine mv_free _ (Or.inr ⟨by rfl, rfl⟩) (⟨k0, k1, k2, k3, c5⟩) ?_
                 simp only [Act.put, List.setIfInBounds_toArray, List.set_cons_zero, List.set_cons_succ])
          iterate 1
            first
              | (refine mv_take ?_ (Or.inl ⟨by rfl, ?_⟩) (⟨k0, k1, k2, k3, c5⟩) ?_
                 rotate_left 1
                 · intro u hu
                   (try dsimp only at hu)
                   go_simp
                   try with_reducible rfl
                 simp only [Act.put, List.setIfInBounds_toArray, List.set_cons_zero, List.set_cons_succ])
              | (refine mv_take _ (Or.inr ⟨by rfl, rfl⟩) (⟨k0, k1, k2, k3, c5⟩) ?_
                 simp only [Act.put, List.setIfInBounds_toArray, List.set_cons_zero, List.set_cons_succ])
          iterate 2
            first
              | (refine mv_free ?_ (Or.inl ⟨by rfl, ?_⟩) (⟨k0, k1, k2, k3, c5⟩) ?_
                 rotate_left 1
                 · intro u
                   go_simp
                   try simp only [d1]
                   try simp only [d2]
                   try simp only [d3]
                   try with_reducible rfl
                 simp only [Act.put, List.setIfInBounds_toArray, List.set_cons_zero, List.set_cons_succ])
              | (refine mv_free _ (Or.inr ⟨by rfl, rfl⟩) (⟨k0, k1, k2, k3, c5⟩) ?_
                 simp only [Act.put, List.setIfInBounds_toArray, List.set_cons_zero, List.set_cons_succ])
          iterate 1
            first
              | (refine mv_take ?_ (Or.inl ⟨by rfl, ?_⟩) (⟨k0, k1, k2, k3, c5⟩) ?_
                 rotate_left 1
                 · intro u hu
                   (try dsimp only at hu)
                   go_simp
                   try with_reducible rfl
                 simp only [Act.put, List.setIfInBounds_toArray, List.set_cons_zero, List.set_cons_succ])
              | (refine mv_take _ (Or.inr ⟨by rfl, rfl⟩) (⟨k0, k1, k2, k3, c5⟩) ?_
                 simp only [Act.put, List.setIfInBounds_toArray, List.set_cons_zero, List.set_cons_succ])
          refine mv_step (fun K hK => ?_)
          go_simp
          refine (AT.out _ hb6.drew).mono ?_
          rintro e w7 ⟨rfl, hb7⟩
          have hb7 := hb6.drew.trans (hb7.mono (by have := hb6.size; have := hz.out; show _ ≤ w6.heap.size; omega))
          obtain ⟨k0, k1, k2, k3⟩ := hcs.out _ hb7
          obtain ⟨bx', ox', ea, -, c5⟩ := GX1.out _ hb7
          injection ea with ea
          injection ea with e1 e2
          subst e1 e2
          obtain ⟨b2', o2', eb, -, c6⟩ := GY1.out _ hb7
          injection eb with eb
          injection eb with e1 e2
          subst e1 e2
          go_wp2_with fail
          refine hK.out _ _ _ (fun u hu => hu) (⟨k0, k1, k2, k3, c5⟩) ?_
          clear hK K
          iterate 5
            first
              | (refine mv_free ?_ (Or.inl ⟨by rfl, ?_⟩) (⟨k0, k1, k2, k3, c5⟩) ?_
                 rotate_left 1
                 · intro u
                   go_simp
                   try simp only [d1]
                   try simp only [d2]
                   try simp only [d3]
                   try with_reducible rfl
                 simp only [Act.put, List.setIfInBounds_toArray, List.set_cons_zero, List.set_cons_succ])
              | (refine mv_free _ (Or.inr ⟨by rfl, rfl⟩) (⟨k0, k1, k2, k3, c5⟩) ?_
                 simp only [Act.put, List.setIfInBounds_toArray, List.set_cons_zero, List.set_cons_succ])
          refine mv_done ?_
          go_wp2_with fail
          refine (LV.out _).mono ?_
          rintro e w8 ⟨rfl, hb8⟩
          have hb8 := hb7.trans (hb8.mono (by have := hb7.size; have := hz.out; omega))
          clear hb7
          go_wp2
          go_ret
          exact ⟨rfl, hb0.out.trans (hb8.mono (by omega))⟩
  · rw [hgr] at GR
    replace GR := Lib.hid GR
    clear hgr W hx hy
    replace hb0 := Lib.hid hb0
    replace hz := Lib.hid hz
    replace hcs := Lib.hid hcs
    replace eV := Lib.hid eV
    go_enter Try.func5, Try.ntmps5
    go_wp2_with fail
    rw [← eV.out]
    obtain ⟨k0, k1, k2, k3⟩ := hcs.out _ (Below.refl _ _)
    go_wp2_with fail
    refine (GR.out _).mono ?_
    rintro e w1 ⟨rfl, hb1⟩
    have hb1 := (Below.refl (w.heap.size + 2) V).trans (hb1.mono (Nat.le_of_eq hz.out.symm))
    obtain ⟨k0, k1, k2, k3⟩ := hcs.out _ hb1
    go_wp2_with fail
    refine (LV.out _).mono ?_
    rintro e w2 ⟨rfl, hb2⟩
    have hb2 := hb1.trans (hb2.mono (by have := hb1.size; have := hz.out; omega))
    clear hb1
    go_wp2
    go_ret
    exact ⟨rfl, hb0.out.trans (hb2.mono (by omega))⟩
end Go.Proofs.Ytmmenpaodofahaa
