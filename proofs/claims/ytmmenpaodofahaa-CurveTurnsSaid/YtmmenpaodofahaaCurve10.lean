/- The law CurveRound, walked. -/
import Derived.Test.YtmmenpaodofahaaCurve9
namespace Go.Proofs.Ytmmenpaodofahaa
open Go.ChangeShapes Go.WideShapes Go.ChangeAt Go.RowKit
set_option linter.unusedVariables false
set_option linter.unusedSimpArgs false
theorem rgtB_swap {X Y : List Int} (hg : rgtB X Y = true) (h : risB Y = true) : rgtB Y X = true := by
  obtain ⟨n1, n2, n3, g1, g2, g3⟩ := rgtB_at hg
  unfold rgtB
  simp only [Bool.and_eq_true]
  exact ⟨⟨⟨⟨⟨decide_eq_true (by omega), decide_eq_true (by omega)⟩, decide_eq_true (by omega)⟩, h⟩, g3⟩, g2⟩
set_option maxRecDepth 100000 in
set_option maxHeartbeats 8000000 in
theorem law_CurveRound (ax ay : Option Addr) (cx cy : Nat) (X Y : List Int) (i : Int) (w : World) (hx : RowIs .i64 w ax X) (hy : RowIs .i64 w ay Y) :
    Calls Try.prog 6 #[.agg #[.slice ax X.length cx, .slice ay Y.length cy], .int .i64 i] w fun e w' => e = .returned (.bool true) ∧ Below w.heap.size w w' := by
  have LV := Lib.hid (fun u => lives05 u)
  have GR := fun u => cgreat_any ax ay cx cy X Y u
  obtain ⟨V, eV, hb0, hz, hcs⟩ := crv_box w ax ay cx cy X Y
  have W := fun u (h : Below (w.heap.size + 1) V u) => show Below w.heap.size w u from hb0.trans (h.mono (by omega))
  cases hgr : (decide (300 < X.length) || decide (300 < Y.length))
  · rw [hgr] at GR
    replace GR := Lib.hid GR
    have hX : X.length ≤ 300 := by simp at hgr; omega
    have hY : Y.length ≤ 300 := by simp at hgr; omega
    have RR := fun u (h : Below (w.heap.size + 1) V u) => rrises5_any ax ay cx cy X Y true u (hx.below (W u h)) (hy.below (W u h)) hX hY
    cases hg : (upB true Y && rgtB X Y)
    · rw [hg] at RR
      replace RR := Lib.hid RR
      clear hgr hX hY W hx hy hg
      replace hb0 := Lib.hid hb0
      replace hz := Lib.hid hz
      replace hcs := Lib.hid hcs
      replace eV := Lib.hid eV
      go_enter Try.func6, Try.ntmps6
      go_wp2_with fail
      rw [← eV.out]
      obtain ⟨k0, k1⟩ := hcs.out _ (Below.refl _ _)
      go_wp2_with fail
      refine (GR.out _).mono ?_
      rintro e w1 ⟨rfl, hb1⟩
      have hb1 := (Below.refl (w.heap.size + 1) V).trans (hb1.mono (Nat.le_of_eq hz.out.symm))
      obtain ⟨k0, k1⟩ := hcs.out _ hb1
      go_wp2_with fail
      refine (RR.out _ hb1).mono ?_
      rintro e w2 ⟨rfl, hb2⟩
      have hb2 := hb1.trans (hb2.mono (by have := hb1.size; have := hz.out; omega))
      clear hb1
      obtain ⟨k0, k1⟩ := hcs.out _ hb2
      go_wp2_with fail
      refine (LV.out _).mono ?_
      rintro e w3 ⟨rfl, hb3⟩
      have hb3 := hb2.trans (hb3.mono (by have := hb2.size; have := hz.out; omega))
      clear hb2
      go_wp2
      go_ret
      exact ⟨rfl, hb0.out.trans (hb3.mono (by omega))⟩
    · rw [hg] at RR
      replace RR := Lib.hid RR
      simp only [Bool.and_eq_true] at hg
      obtain ⟨hr, hg⟩ := hg
      replace hr : risB Y = true := hr
      have hs := rgtB_swap hg hr
      obtain ⟨n1, n2, n3, g1, g2, g3⟩ := rgtB_at hg
      have BK := Lib.hid (fun u (h : Below (w.heap.size + 1) V u) => cback_ok ax ay cx cy X Y u (hx.below (W u h)) (hy.below (W u h)) hX hY hr hg)
      have B2 := Lib.hid (fun a b c d u ha hb => cback_ok a b c d Y X u ha hb hY hX g1 hs)
      have SM := Lib.hid (fun a b c d u (h : Below (w.heap.size + 1) V u) ha hb => rsame5_any ax ay a b cx cy c d X Y u (hx.below (W u h)) (hy.below (W u h)) ha hb (by omega) (by omega) hX hY)
      have AT := Lib.hid (fun a b c d t (ht : t < Y.length) mt (hm : CrK Y (Y.getD t 0) mt) u ha hb => cat5_any a b c d Y X (Y.getD t 0) mt u ha hb hY hX (fun _ => hm))
      have HA := Lib.hid (fun t (ht : t < Y.length) mt (hm : CrK Y (Y.getD t 0) mt) => crV_at hs ht hm)
      have ex := Lib.hid (fun t => crK_ex hr (Y.getD t 0))
      have GX := Lib.hid (fun u (h : Below (w.heap.size + 1) V u) t (ht : t < Y.length) => (hx.below (W u h)).at (show t < X.length by omega))
      have GY := Lib.hid (fun u (h : Below (w.heap.size + 1) V u) t (ht : t < Y.length) => (hy.below (W u h)).at ht)
      have HG := Lib.hid hs
      have nl := Lib.hid (show (Y.length : Int) = (X.length : Int) by omega)
      replace n3 := Lib.hid n3
      clear hgr hX hY W hx hy hg hr hs g1 g2 g3 n1 n2
      replace hb0 := Lib.hid hb0
      replace hz := Lib.hid hz
      replace hcs := Lib.hid hcs
      replace eV := Lib.hid eV
      go_enter Try.func6, Try.ntmps6
      go_wp2_with fail
      rw [← eV.out]
      obtain ⟨k0, k1⟩ := hcs.out _ (Below.refl _ _)
      go_wp2_with fail
      refine (GR.out _).mono ?_
      rintro e w1 ⟨rfl, hb1⟩
      have hb1 := (Below.refl (w.heap.size + 1) V).trans (hb1.mono (Nat.le_of_eq hz.out.symm))
      obtain ⟨k0, k1⟩ := hcs.out _ hb1
      go_wp2_with fail
      refine (RR.out _ hb1).mono ?_
      rintro e w2 ⟨rfl, hb2⟩
      have hb2 := hb1.trans (hb2.mono (by have := hb1.size; have := hz.out; omega))
      clear hb1
      obtain ⟨k0, k1⟩ := hcs.out _ hb2
      go_wp2_with fail
      refine (BK.out _ hb2).mono ?_
      rintro e w3 ⟨p1, s1, p2, s2, rfl, r1, r2, hb3⟩
      have hb3 := hb2.trans (hb3.mono (by have := hb2.size; have := hz.out; omega))
      obtain ⟨k0, k1⟩ := hcs.out _ hb3
      replace r1 := Lib.hid r1
      replace r2 := Lib.hid r2
      go_upto_region 4 with (fail)
      obtain ⟨V1, eV1, hm0, hz1, hcs1⟩ := crv_box w3 (some ⟨p1, 0, none⟩) (some ⟨p2, 0, none⟩) s1 s2 Y X
      have hb4 := hb3.trans (hm0.mono (by have := hb3.size; have := hz.out; omega))
      replace eV1 := Lib.hid eV1
      rw [← eV1.out]
      obtain ⟨k0, k1⟩ := hcs.out _ hb4
      obtain ⟨j0, j1⟩ := hcs1 _ (Below.refl _ _)
      have r3 := r1.out.below hm0
      have r4 := r2.out.below hm0
      replace r1 := Lib.hid (fun u (h : Below (w3.heap.size + 1) V1 u) => r3.below (h.mono (by rw [hz1]; exact Nat.le_refl _)))
      replace r2 := Lib.hid (fun u (h : Below (w3.heap.size + 1) V1 u) => r4.below (h.mono (by rw [hz1]; exact Nat.le_refl _)))
      clear hb3 r3 r4
      have hmv := Lib.hid hm0
      clear hm0
      have hs3 := Lib.hid (show w.heap.size + 1 ≤ w3.heap.size + 1 ∧ V1.heap.size = w3.heap.size + 1 from ⟨by have := hb4.size; have := hz.out; omega, hz1⟩)
      clear hz1
      replace hcs1 := Lib.hid hcs1
      go_wp2_with fail
      refine (B2.out _ _ _ _ _ (r1.out _ (Below.refl _ _)) (r2.out _ (Below.refl _ _))).mono ?_
      rintro e w5 ⟨p3, s3, p4, s4, rfl, r3, r4, hb5⟩
      have hm5 := (Below.refl (w3.heap.size + 1) V1).trans (hb5.mono (Nat.le_of_eq hs3.out.2.symm))
      replace hb5 := hb4.trans (hb5.mono (by have := hb4.size; have := hz.out; omega))
      clear hb4
      obtain ⟨k0, k1⟩ := hcs.out _ hb5
      obtain ⟨j0, j1⟩ := hcs1.out _ hm5
      replace r3 := Lib.hid r3
      replace r4 := Lib.hid r4
      go_upto_region 5 with (fail)
      obtain ⟨V2, eV2, hn0, hz2, hcs2⟩ := crv_box w5 (some ⟨p3, 0, none⟩) (some ⟨p4, 0, none⟩) s3 s4 X Y
      replace eV2 := Lib.hid eV2
      rw [← eV2.out]
      have hm6 := hm5.trans (hn0.mono (by have := hm5.size; have := hs3.out.2; omega))
      have hb6 := hb5.trans (hn0.mono (by have := hb5.size; have := hz.out; omega))
      obtain ⟨k0, k1⟩ := hcs.out _ hb6
      obtain ⟨j0, j1⟩ := hcs1.out _ hm6
      obtain ⟨i0, i1⟩ := hcs2 _ (Below.refl _ _)
      have r5 := Lib.hid (r3.out.below hn0)
      have r6 := Lib.hid (r4.out.below hn0)
      have hz2' := Lib.hid hz2
      clear hb5 hm5 r3 r4 hn0 hcs2 hz2
      go_wp2_with fail
      refine (SM.out _ _ _ _ _ hb6 r5.out r6.out).mono ?_
      rintro e w7 ⟨rfl, hb7⟩
      have hm7 := hm6.trans (hb7.mono (by have := hm6.size; have := hs3.out.2; omega))
      replace hb7 := hb6.trans (hb7.mono (by have := hb6.size; have := hz.out; omega))
      clear hb6 hm6 i0 i1 r5 r6
      obtain ⟨k0, k1⟩ := hcs.out _ hb7
      obtain ⟨j0, j1⟩ := hcs1.out _ hm7
      have out : i < 0 ∨ (0 ≤ i ∧ (Y.length : Int) ≤ i) ∨ ∃ t : Nat, t < Y.length ∧ i = (t : Int) := by
        by_cases h1 : i < 0
        · exact .inl h1
        · by_cases h2 : (Y.length : Int) ≤ i
          · exact .inr (.inl ⟨by omega, h2⟩)
          · exact .inr (.inr ⟨i.toNat, by omega, by omega⟩)
      go_upto_region 7 with (fail)
      rcases out with h | ⟨h, h2⟩ | ⟨t, ht, rfl⟩
      · clear AT HA ex GX GY B2 BK SM GR RR
        go_wp2_with fail
        refine (LV.out _).mono ?_
        rintro e w8 ⟨rfl, hb8⟩
        have hb8 := hb7.trans (hb8.mono (by have := hb7.size; have := hz.out; omega))
        clear hb7
        go_wp2
        go_ret
        exact ⟨rfl, hb0.out.trans (hb8.mono (by omega))⟩
      · clear AT HA ex GX GY B2 BK SM GR RR
        go_wp2_with fail
        refine (LV.out _).mono ?_
        rintro e w8 ⟨rfl, hb8⟩
        have hb8 := hb7.trans (hb8.mono (by have := hb7.size; have := hz.out; omega))
        clear hb7
        go_wp2
        go_ret
        exact ⟨rfl, hb0.out.trans (hb8.mono (by omega))⟩
      · obtain ⟨mt, hmt⟩ := ex.out t
        have AT1 := AT.out (some ⟨p1, 0, none⟩) (some ⟨p2, 0, none⟩) s1 s2 t ht mt hmt
        rw [HG.out, HA.out t ht mt hmt, if_pos rfl] at AT1
        have GX1 := Lib.hid (fun u h => GX.out u h t ht)
        have GY1 := Lib.hid (fun u h => GY.out u h t ht)
        generalize X.getD t 0 = p at *
        generalize Y.getD t 0 = q at *
        replace AT1 := Lib.hid AT1
        have t2 : (t : Int) < (Y.length : Int) := by omega
        have t1 : (t : Int) < (X.length : Int) := by have := nl.out; omega
        have t0 : 0 ≤ (t : Int) := by omega
        clear AT HA ex GX GY hmt ht B2 BK SM GR RR HG
        obtain ⟨bx, ox, ea, -, c5⟩ := GX1.out _ hb7
        obtain ⟨b2, o2, eb, -, c6⟩ := GY1.out _ hb7
        subst ea eb
        go_wp2_with fail
        refine region_moves (fun u => u.cell? ⟨w.heap.size, 0, none⟩ = some (.slice (some ⟨bx, ox, none⟩) X.length cx) ∧ u.cell? ⟨w.heap.size, 1, none⟩ = some (.slice (some ⟨b2, o2, none⟩) Y.length cy) ∧ u.cell? ⟨b2, o2 + t, none⟩ = some (.int .i64 q) ∧ u.cell? ⟨w3.heap.size, 0, none⟩ = some (.slice (some ⟨p1, 0, none⟩) Y.length s1) ∧ u.cell? ⟨w3.heap.size, 1, none⟩ = some (.slice (some ⟨p2, 0, none⟩) X.length s2)) [] [(.take, 0), (.free, 1), (.take, 2), (.free, 3), (.free, 4), (.take, 5), (.step, 6), (.free, 7), (.free, 8), (.free, 9), (.free, 10), (.free, 11)] _ (by kernel_rfl) (by kernel_rfl) (by kernel_rfl) (by kernel_rfl) (by decide) rfl (fun _ _ _ _ _ h => h) ?_
        simp only [List.filterMap_cons, List.filterMap_nil, List.getElem?_toArray, List.getElem?_cons_zero, List.getElem?_cons_succ, Option.map_some]
        iterate 1
          first
            | (refine mv_take ?_ (Or.inl ⟨by rfl, ?_⟩) (⟨k0, k1, c6, j0, j1⟩) ?_
               rotate_left 1
               · intro u hu
                 (try dsimp only at hu)
                 go_simp
                 try with_reducible rfl
               simp only [Act.put, List.setIfInBounds_toArray, List.set_cons_zero, List.set_cons_succ])
            | (refine mv_take _ (Or.inr ⟨by rfl, rfl⟩) (⟨k0, k1, c6, j0, j1⟩) ?_
               simp only [Act.put, List.setIfInBounds_toArray, List.set_cons_zero, List.set_cons_succ])
        iterate 1
          first
            | (refine mv_free ?_ (Or.inl ⟨by rfl, ?_⟩) (⟨k0, k1, c6, j0, j1⟩) ?_
               rotate_left 1
               · intro u
                 go_simp
                 try simp only [d1]
                 try simp only [d2]
                 try simp only [d3]
                 try with_reducible rfl
               simp only [Act.put, List.setIfInBounds_toArray, List.set_cons_zero, List.set_cons_succ])
            | (refine mv_free _ (Or.inr ⟨by rfl, rfl⟩) (⟨k0, k1, c6, j0, j1⟩) ?_
               simp only [Act.put, List.setIfInBounds_toArray, List.set_cons_zero, List.set_cons_succ])
        iterate 1
          first
            | (refine mv_take ?_ (Or.inl ⟨by rfl, ?_⟩) (⟨k0, k1, c6, j0, j1⟩) ?_
               rotate_left 1
               · intro u hu
                 (try dsimp only at hu)
                 go_simp
                 try with_reducible rfl
               simp only [Act.put, List.setIfInBounds_toArray, List.set_cons_zero, List.set_cons_succ])
            | (refine mv_take _ (Or.inr ⟨by rfl, rfl⟩) (⟨k0, k1, c6, j0, j1⟩) ?_
               simp only [Act.put, List.setIfInBounds_toArray, List.set_cons_zero, List.set_cons_succ])
        iterate 2
          first
            | (refine mv_free ?_ (Or.inl ⟨by rfl, ?_⟩) (⟨k0, k1, c6, j0, j1⟩) ?_
               rotate_left 1
               · intro u
                 go_simp
                 try simp only [d1]
                 try simp only [d2]
                 try simp only [d3]
                 try with_reducible rfl
               simp only [Act.put, List.setIfInBounds_toArray, List.set_cons_zero, List.set_cons_succ])
            | (refine mv_free _ (Or.inr ⟨by rfl, rfl⟩) (⟨k0, k1, c6, j0, j1⟩) ?_
               simp only [Act.put, List.setIfInBounds_toArray, List.set_cons_zero, List.set_cons_succ])
        iterate 1
          first
            | (refine mv_take ?_ (Or.inl ⟨by rfl, ?_⟩) (⟨k0, k1, c6, j0, j1⟩) ?_
               rotate_left 1
               · intro u hu
                 (try dsimp only at hu)
                 go_simp
                 try with_reducible rfl
               simp only [Act.put, List.setIfInBounds_toArray, List.set_cons_zero, List.set_cons_succ])
            | (refine mv_take _ (Or.inr ⟨by rfl, rfl⟩) (⟨k0, k1, c6, j0, j1⟩) ?_
               simp only [Act.put, List.setIfInBounds_toArray, List.set_cons_zero, List.set_cons_succ])
        refine mv_step (fun K hK => ?_)
        go_simp
        refine (AT1.out _ (r1.out _ hm7.drew) (r2.out _ hm7.drew)).mono ?_
        rintro e w8 ⟨rfl, hb8⟩
        have hm8 := hm7.drew.trans (hb8.mono (by have := hm7.size; have := hs3.out.2; show _ ≤ w7.heap.size; omega))
        have hb8 := hb7.drew.trans (hb8.mono (by have := hb7.size; have := hz.out; show _ ≤ w7.heap.size; omega))
        obtain ⟨k0, k1⟩ := hcs.out _ hb8
        obtain ⟨j0, j1⟩ := hcs1.out _ hm8
        obtain ⟨bx', ox', ea, -, c5⟩ := GX1.out _ hb8
        injection ea with ea
        injection ea with e1 e2
        subst e1 e2
        obtain ⟨b2', o2', eb, -, c6⟩ := GY1.out _ hb8
        injection eb with eb
        injection eb with e1 e2
        subst e1 e2
        go_wp2_with fail
        refine hK.out _ _ _ (fun u hu => hu) (⟨k0, k1, c6, j0, j1⟩) ?_
        clear hK K
        iterate 5
          first
            | (refine mv_free ?_ (Or.inl ⟨by rfl, ?_⟩) (⟨k0, k1, c6, j0, j1⟩) ?_
               rotate_left 1
               · intro u
                 go_simp
                 try simp only [d1]
                 try simp only [d2]
                 try simp only [d3]
                 try with_reducible rfl
               simp only [Act.put, List.setIfInBounds_toArray, List.set_cons_zero, List.set_cons_succ])
            | (refine mv_free _ (Or.inr ⟨by rfl, rfl⟩) (⟨k0, k1, c6, j0, j1⟩) ?_
               simp only [Act.put, List.setIfInBounds_toArray, List.set_cons_zero, List.set_cons_succ])
        refine mv_done ?_
        go_wp2_with fail
        refine (LV.out _).mono ?_
        rintro e w9 ⟨rfl, hb9⟩
        have hb9 := hb8.trans (hb9.mono (by have := hb8.size; have := hz.out; omega))
        clear hb8
        go_wp2
        go_ret
        exact ⟨rfl, hb0.out.trans (hb9.mono (by omega))⟩
  · rw [hgr] at GR
    replace GR := Lib.hid GR
    clear hgr W hx hy
    replace hb0 := Lib.hid hb0
    replace hz := Lib.hid hz
    replace hcs := Lib.hid hcs
    replace eV := Lib.hid eV
    go_enter Try.func6, Try.ntmps6
    go_wp2_with fail
    rw [← eV.out]
    obtain ⟨k0, k1⟩ := hcs.out _ (Below.refl _ _)
    go_wp2_with fail
    refine (GR.out _).mono ?_
    rintro e w1 ⟨rfl, hb1⟩
    have hb1 := (Below.refl (w.heap.size + 1) V).trans (hb1.mono (Nat.le_of_eq hz.out.symm))
    obtain ⟨k0, k1⟩ := hcs.out _ hb1
    go_wp2_with fail
    refine (LV.out _).mono ?_
    rintro e w2 ⟨rfl, hb2⟩
    have hb2 := hb1.trans (hb2.mono (by have := hb1.size; have := hz.out; omega))
    clear hb1
    go_wp2
    go_ret
    exact ⟨rfl, hb0.out.trans (hb2.mono (by omega))⟩
end Go.Proofs.Ytmmenpaodofahaa
