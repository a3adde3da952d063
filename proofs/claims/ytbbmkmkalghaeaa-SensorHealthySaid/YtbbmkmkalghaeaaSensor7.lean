/- The law SensorHealthy; walked. -/
import Derived.Test.YtbbmkmkalghaeaaSensor5
import Derived.Deep.Cut
namespace Go.Proofs.Ytbbmkmkalghaeaa
open Go.ChangeShapes Go.WideShapes Go.ChangeAt Go.RowKit
set_option linter.unusedVariables false
set_option linter.unusedSimpArgs false
set_option maxRecDepth 100000 in
set_option maxHeartbeats 8000000 in
theorem law_SensorHealthy (id pa sh ga of sl dr lo hi ra fi fs fv ft : Int) (a : Option Addr) (cap : Nat) (X : List Int) (w : World) (hr : RowIs .i64 w a X) (hL : X.length ≤ maxLen) : Calls Try.prog 5 #[.agg #[.int .i64 id, .int .i64 pa, .int .i64 sh, .int .i64 ga, .int .i64 of, .int .i64 sl, .int .i64 dr, .int .i64 lo, .int .i64 hi, .int .i64 ra], .agg #[.int .i64 fi, .int .i64 fs, .int .i64 fv, .int .i64 ft], .slice a X.length cap] w fun e w' => e = .returned (.bool true) ∧ Below w.heap.size w w' := by
  have hL' : (X.length : Int) ≤ 9223372036854775807 := by unfold maxLen at hL; omega
  have LV := Lib.hid (fun u => lives17 u)
  have RF := fun u => rfright fi fs fv ft u
  obtain ⟨V, eV, hb0, hP, hF, hz⟩ := pf_box w id pa sh ga of sl dr lo hi ra fi fs fv ft
  have HP := Lib.hid (fun u (h : Below (w.heap.size + 2) V u) => hP.below h (by omega))
  have HF := Lib.hid (fun u (h : Below (w.heap.size + 2) V u) => hF.below h (by omega))
  replace eV := Lib.hid eV
  replace hz := Lib.hid hz
  by_cases h0 : snW id pa ga of sl dr lo hi ra sh = 0
  case neg =>
    have NW := fun u => snew_no id pa ga of sl dr lo hi ra sh u h0
    generalize snW id pa ga of sl dr lo hi ra sh = C at *
    have d5 : (C != 0) = true := by simp [h0]
    replace NW := Lib.hid NW
    clear h0 RF hr
    obtain ⟨c0, z0⟩ := hP.one 0 rfl
    obtain ⟨c1, z1⟩ := hP.one 1 rfl
    obtain ⟨c2, z2⟩ := hP.one 2 rfl
    obtain ⟨c3, z3⟩ := hP.one 3 rfl
    obtain ⟨c4, z4⟩ := hP.one 4 rfl
    obtain ⟨c5, z5⟩ := hP.one 5 rfl
    obtain ⟨c6, z6⟩ := hP.one 6 rfl
    obtain ⟨c7, z7⟩ := hP.one 7 rfl
    obtain ⟨c8, z8⟩ := hP.one 8 rfl
    obtain ⟨c9, z9⟩ := hP.one 9 rfl
    go_enter Try.func5, Try.ntmps5
    go_upto_region 1 with (fail)
    rw [← eV.out]
    go_wp2_with fail
    refine (NW.out _).mono ?_
    rintro e w1 ⟨rfl, hb1⟩
    have hbb1 := Lib.hid (hb0.trans (hb1.mono hb0.size))
    clear c0 c1 c2 c3 c4 c5 c6 c7 c8 c9 z0 z1 z2 z3 z4 z5 z6 z7 z8 z9 hb1 hP hF
    go_wp2_with fail
    refine (LV.out _).mono ?_
    rintro e w4 ⟨rfl, hb4⟩
    go_wp2
    go_ret
    exact ⟨rfl, hbb1.out.trans (hb4.mono hbb1.out.size)⟩
  have NW := Lib.hid (fun u => snew_ok id pa ga of sl dr lo hi ra sh u h0)
  obtain ⟨hid, cr, gr, hs⟩ := snW_ok h0
  clear h0
  obtain ⟨c0, z0⟩ := hP.one 0 rfl
  obtain ⟨c1, z1⟩ := hP.one 1 rfl
  obtain ⟨c2, z2⟩ := hP.one 2 rfl
  obtain ⟨c3, z3⟩ := hP.one 3 rfl
  obtain ⟨c4, z4⟩ := hP.one 4 rfl
  obtain ⟨c5, z5⟩ := hP.one 5 rfl
  obtain ⟨c6, z6⟩ := hP.one 6 rfl
  obtain ⟨c7, z7⟩ := hP.one 7 rfl
  obtain ⟨c8, z8⟩ := hP.one 8 rfl
  obtain ⟨c9, z9⟩ := hP.one 9 rfl
  go_enter Try.func5, Try.ntmps5
  go_upto_region 1 with (fail)
  rw [← eV.out]
  go_wp2_with fail
  refine (NW.out _).mono ?_
  rintro e w1 ⟨b, l, g, y, hb, hl, hg, hy, rfl, S1, hb1⟩
  have hbb1 := Lib.hid (show Below (w.heap.size + 2) V w1 from (Below.refl _ V).trans (hb1.mono (Nat.le_of_eq hz.out.symm)))
  have nb : w.heap.size + 2 ≤ b := by have := hz.out; omega
  have nl : w.heap.size + 2 ≤ l := by have := hz.out; omega
  have ng : w.heap.size + 2 ≤ g := by have := hz.out; omega
  have ny : w.heap.size + 2 ≤ y := by have := hz.out; omega
  replace S1 := Lib.hid S1
  clear c0 c1 c2 c3 c4 c5 c6 c7 c8 c9 z0 z1 z2 z3 z4 z5 z6 z7 z8 z9 hb1 hP hF hb hl hg hy NW
  by_cases h60 : 60 < X.length
  · clear RF hr
    go_wp2_with fail
    refine (LV.out _).mono ?_
    rintro e w4 ⟨rfl, hb4⟩
    go_wp2
    go_ret
    exact ⟨rfl, (hb0.trans (hbb1.out.mono (by omega))).trans (hb4.mono (hb0.trans (hbb1.out.mono (by omega))).size)⟩
  cases hf : frB fi fs fv ft
  · rw [hf] at RF
    replace RF := Lib.hid RF
    clear hr hf
    have hF1 := HF.out _ hbb1.out
    obtain ⟨c0, z0⟩ := hF1.one 0 rfl
    obtain ⟨c1, z1⟩ := hF1.one 1 rfl
    obtain ⟨c2, z2⟩ := hF1.one 2 rfl
    obtain ⟨c3, z3⟩ := hF1.one 3 rfl
    go_wp2_with fail
    refine (RF.out _).mono ?_
    rintro e w2 ⟨rfl, hb2⟩
    have hbb2 := Lib.hid (hbb1.out.trans (hb2.mono (by have := hbb1.out.size; have := hz.out; omega)))
    clear hF1 hb2 c0 c1 c2 c3 z0 z1 z2 z3
    go_wp2_with fail
    refine (LV.out _).mono ?_
    rintro e w4 ⟨rfl, hb4⟩
    go_wp2
    go_ret
    exact ⟨rfl, (hb0.trans (hbb2.out.mono (by omega))).trans (hb4.mono (hb0.trans (hbb2.out.mono (by omega))).size)⟩
  rw [hf] at RF
  replace RF := Lib.hid RF
  have hfb := frB_at hf
  have ok := gaR_ok gr
  have o2 := ok.b
  have o3 := ok.c
  have o4 := ok.d
  have o5 := ok.e
  have hF1 := HF.out _ hbb1.out
  obtain ⟨c0, z0⟩ := hF1.one 0 rfl
  obtain ⟨c1, z1⟩ := hF1.one 1 rfl
  obtain ⟨c2, z2⟩ := hF1.one 2 rfl
  obtain ⟨c3, z3⟩ := hF1.one 3 rfl
  go_wp2_with fail
  refine (RF.out _).mono ?_
  rintro e w2 ⟨rfl, hb2⟩
  have hbb2 := Lib.hid (hbb1.out.trans (hb2.mono (by have := hbb1.out.size; have := hz.out; omega)))
  have S2 := Lib.hid (S1.out.bel hb2)
  clear hF1 hb2 c0 c1 c2 c3 z0 z1 z2 z3 S1 hbb1 RF hf
  have HR := Lib.hid (fun u (h : Below (w.heap.size + 2) V u) => hr.below (hb0.trans (h.mono (by omega))))
  clear hr
  go_wp2_with fail
  go_loopw [9, 10, 11, 12, 13] (fun s9 s10 s11 s12 i u => ∃ (k : Nat) (had : Bool) (li sq lv lt last yv low high : Int), k ≤ X.length ∧ i = .int .i64 (k : Int) ∧ s9 = .bool had ∧ s10 = .int .i64 last ∧ s11 = .int .i64 low ∧ s12 = .int .i64 high ∧ -549755813887 ≤ yv ∧ yv ≤ 549755813887 ∧ -549755813887 ≤ last ∧ last ≤ 549755813887 ∧ Hid ((had = false ∧ last = 0) ∨ (had = true ∧ low ≤ yv ∧ yv ≤ high ∧ sq = (fs + (k : Int) - 1) % 256)) ∧ Hid (Sn b l g y ga of sl dr (lkC id pa li sq lv lt had 0 (k : Int) 0) (gaC lo hi ra last had 0) (lgC sh yv had) u) ∧ Below (w.heap.size + 2) V u) (fun _ _ _ _ i _ => X.length - (intOf i).toNat)
  case atStart => exact ⟨0, false, 0, 0, 0, 0, 0, 0, 0, 0, Nat.zero_le _, rfl, rfl, rfl, rfl, rfl, by omega, by omega, by omega, by omega, Lib.hid (.inl ⟨rfl, rfl⟩), S2, hbb2.out⟩
  case round =>
    clear S2 hbb2
    obtain ⟨k, had, li, sq, lv, lt, last, yv, low, high, hk, rfl, rfl, rfl, rfl, rfl, y1, y2, l0, l1, hh, S, hb⟩ := hrel
    by_cases hlt : k < X.length
    case neg =>
      go_wp2_with fail
      refine (LV.out _).mono ?_
      rintro e w4 ⟨rfl, hb4⟩
      go_wp2
      go_ret
      exact ⟨rfl, (hb0.trans (hb.mono (by omega))).trans (hb4.mono (hb0.trans (hb.mono (by omega))).size)⟩
    obtain ⟨rb, ro, rfl, hrb, hx⟩ := (HR.out wr hb).at hlt
    generalize X.getD k 0 = x at *
    have hPP := HP.out _ hb
    have hFF := HF.out _ hb
    obtain ⟨q, hq⟩ : ∃ q, q = (fs + (k : Int)) % 256 := ⟨_, rfl⟩
    obtain ⟨b1, b2, b3, b4, b5, b6, b7, b8⟩ := hfb
    have n1 : IntKind.i64.wrap (fs + (k : Int)) = fs + (k : Int) := by rw [IntKind.wrap_i64]; omega
    have n2 : (fs + (k : Int)).tmod 256 = q := by rw [Int.tmod_eq_emod_of_nonneg (by omega), hq]
    have q0 : 0 ≤ q := by omega
    have q1 : q ≤ 255 := by omega
    have kl : (k : Int) < 100 := by omega
    have RG := fun u => rfright id q x ft u
    obtain ⟨c0, z0⟩ := hPP.one 0 rfl
    obtain ⟨c1, z1⟩ := hPP.one 1 rfl
    obtain ⟨c2, z2⟩ := hPP.one 2 rfl
    obtain ⟨c3, z3⟩ := hPP.one 3 rfl
    obtain ⟨c4, z4⟩ := hPP.one 4 rfl
    obtain ⟨c5, z5⟩ := hPP.one 5 rfl
    obtain ⟨c6, z6⟩ := hPP.one 6 rfl
    obtain ⟨c7, z7⟩ := hPP.one 7 rfl
    obtain ⟨c8, z8⟩ := hPP.one 8 rfl
    obtain ⟨c9, z9⟩ := hPP.one 9 rfl
    obtain ⟨p0, e0⟩ := hFF.one 0 rfl
    obtain ⟨p1, e1⟩ := hFF.one 1 rfl
    obtain ⟨p2, e2⟩ := hFF.one 2 rfl
    obtain ⟨p3, e3⟩ := hFF.one 3 rfl
    generalize wr = v0 at *
    obtain ⟨V1, eV1, hm1, hG1, hz1⟩ := f4_alloc v0 0 0 0 0
    obtain ⟨V2, eV2, hG2, hm2⟩ := hG1.laid id q x ft
    have S1' := Lib.hid (S.out.bel hm1)
    have bS := S.out.o.lt
    have lS := S.out.hl.lt
    have gS := S.out.hg.lt
    have yS := S.out.hy.lt
    have S2' := Lib.hid (S1'.out.low hm2 bS lS gS yS)
    have hB1 := hb.trans (hm1.mono (by have := hb.size; have := hz.out; omega))
    have hB2 := hB1.trans (hm2.mono (by have := hb.size; have := hz.out; omega))
    obtain ⟨f1, ef1⟩ : ∃ f1, f1 = v0.heap.size := ⟨_, rfl⟩
    rw [← ef1] at hG1 hG2 eV2 bS lS gS yS
    replace ef1 := Lib.hid ef1
    replace eV1 := Lib.hid eV1
    replace eV2 := Lib.hid eV2
    have nf : w.heap.size + 2 ≤ f1 := by rw [ef1.out]; have := hb.size; have := hz.out; omega
    have hx1 := (bc hm1 hrb).trans hx
    have hx2 : V2.cell? ⟨rb, ro + k, none⟩ = some (.int .i64 x) := (bc hm2 hrb).trans hx1
    replace hx1 := Lib.hid hx1
    replace hx2 := Lib.hid hx2
    replace hG1 := Lib.hid hG1
    replace hG2 := Lib.hid hG2
    replace hB1 := Lib.hid hB1
    replace hB2 := Lib.hid hB2
    replace hq := Lib.hid hq
    replace RG := Lib.hid RG
    clear hm1 hm2 hz1 S S1' hPP hFF hb
    go_wp2_with fail
    refine region_moves (fun u => u.cell? ⟨w.heap.size, 0, none⟩ = some (.int .i64 id) ∧ u.cell? ⟨w.heap.size + 1, 1, none⟩ = some (.int .i64 fs) ∧ u.cell? ⟨w.heap.size + 1, 3, none⟩ = some (.int .i64 ft) ∧ u.cell? ⟨rb, ro + k, none⟩ = some (.int .i64 x)) [] [(.free, 0), (.take, 1), (.free, 2), (.take, 3), (.free, 4), (.free, 5), (.free, 6), (.free, 7), (.free, 8), (.free, 9), (.take, 10), (.free, 11), (.take, 12), (.free, 13), (.step, 14), (.step, 15)] _ (by kernel_rfl) (by kernel_rfl) (by kernel_rfl) (by kernel_rfl) (by decide) rfl (fun _ _ _ _ _ h => h) ?_
    simp only [List.filterMap_cons, List.filterMap_nil, List.getElem?_toArray, List.getElem?_cons_zero, List.getElem?_cons_succ, Option.map_some]
    iterate 1
      first
        | (refine mv_free ?_ (Or.inl ⟨by rfl, ?_⟩) (⟨c0, p1, p3, hx⟩) ?_
           rotate_left 1
           · intro u
             go_simp
             try simp only [d1]
             try simp only [d2]
             try simp only [d3]
             try with_reducible rfl
           simp only [Act.put, List.setIfInBounds_toArray, List.set_cons_zero, List.set_cons_succ])
        | (refine mv_free _ (Or.inr ⟨by rfl, rfl⟩) (⟨c0, p1, p3, hx⟩) ?_
           simp only [Act.put, List.setIfInBounds_toArray, List.set_cons_zero, List.set_cons_succ])
    iterate 1
      first
        | (refine mv_take ?_ (Or.inl ⟨by rfl, ?_⟩) (⟨c0, p1, p3, hx⟩) ?_
           rotate_left 1
           · intro u hu
             (try dsimp only at hu)
             go_simp
             try with_reducible rfl
           simp only [Act.put, List.setIfInBounds_toArray, List.set_cons_zero, List.set_cons_succ])
        | (refine mv_take _ (Or.inr ⟨by rfl, rfl⟩) (⟨c0, p1, p3, hx⟩) ?_
           simp only [Act.put, List.setIfInBounds_toArray, List.set_cons_zero, List.set_cons_succ])
    iterate 1
      first
        | (refine mv_free ?_ (Or.inl ⟨by rfl, ?_⟩) (⟨c0, p1, p3, hx⟩) ?_
           rotate_left 1
           · intro u
             go_simp
             try simp only [d1]
             try simp only [d2]
             try simp only [d3]
             try with_reducible rfl
           simp only [Act.put, List.setIfInBounds_toArray, List.set_cons_zero, List.set_cons_succ])
        | (refine mv_free _ (Or.inr ⟨by rfl, rfl⟩) (⟨c0, p1, p3, hx⟩) ?_
           simp only [Act.put, List.setIfInBounds_toArray, List.set_cons_zero, List.set_cons_succ])
    iterate 1
      first
        | (refine mv_take ?_ (Or.inl ⟨by rfl, ?_⟩) (⟨c0, p1, p3, hx⟩) ?_
           rotate_left 1
           · intro u hu
             (try dsimp only at hu)
             go_simp
             try with_reducible rfl
           simp only [Act.put, List.setIfInBounds_toArray, List.set_cons_zero, List.set_cons_succ])
        | (refine mv_take _ (Or.inr ⟨by rfl, rfl⟩) (⟨c0, p1, p3, hx⟩) ?_
           simp only [Act.put, List.setIfInBounds_toArray, List.set_cons_zero, List.set_cons_succ])
    iterate 6
      first
        | (refine mv_free ?_ (Or.inl ⟨by rfl, ?_⟩) (⟨c0, p1, p3, hx⟩) ?_
           rotate_left 1
           · intro u
             go_simp
             try simp only [d1]
             try simp only [d2]
             try simp only [d3]
             try with_reducible rfl
           simp only [Act.put, List.setIfInBounds_toArray, List.set_cons_zero, List.set_cons_succ])
        | (refine mv_free _ (Or.inr ⟨by rfl, rfl⟩) (⟨c0, p1, p3, hx⟩) ?_
           simp only [Act.put, List.setIfInBounds_toArray, List.set_cons_zero, List.set_cons_succ])
    iterate 1
      first
        | (refine mv_take ?_ (Or.inl ⟨by rfl, ?_⟩) (⟨c0, p1, p3, hx⟩) ?_
           rotate_left 1
           · intro u hu
             (try dsimp only at hu)
             go_simp
             try with_reducible rfl
           simp only [Act.put, List.setIfInBounds_toArray, List.set_cons_zero, List.set_cons_succ])
        | (refine mv_take _ (Or.inr ⟨by rfl, rfl⟩) (⟨c0, p1, p3, hx⟩) ?_
           simp only [Act.put, List.setIfInBounds_toArray, List.set_cons_zero, List.set_cons_succ])
    iterate 1
      first
        | (refine mv_free ?_ (Or.inl ⟨by rfl, ?_⟩) (⟨c0, p1, p3, hx⟩) ?_
           rotate_left 1
           · intro u
             go_simp
             try simp only [d1]
             try simp only [d2]
             try simp only [d3]
             try with_reducible rfl
           simp only [Act.put, List.setIfInBounds_toArray, List.set_cons_zero, List.set_cons_succ])
        | (refine mv_free _ (Or.inr ⟨by rfl, rfl⟩) (⟨c0, p1, p3, hx⟩) ?_
           simp only [Act.put, List.setIfInBounds_toArray, List.set_cons_zero, List.set_cons_succ])
    iterate 1
      first
        | (refine mv_take ?_ (Or.inl ⟨by rfl, ?_⟩) (⟨c0, p1, p3, hx⟩) ?_
           rotate_left 1
           · intro u hu
             (try dsimp only at hu)
             go_simp
             try with_reducible rfl
           simp only [Act.put, List.setIfInBounds_toArray, List.set_cons_zero, List.set_cons_succ])
        | (refine mv_take _ (Or.inr ⟨by rfl, rfl⟩) (⟨c0, p1, p3, hx⟩) ?_
           simp only [Act.put, List.setIfInBounds_toArray, List.set_cons_zero, List.set_cons_succ])
    iterate 1
      first
        | (refine mv_free ?_ (Or.inl ⟨by rfl, ?_⟩) (⟨c0, p1, p3, hx⟩) ?_
           rotate_left 1
           · intro u
             go_simp
             try simp only [d1]
             try simp only [d2]
             try simp only [d3]
             try with_reducible rfl
           simp only [Act.put, List.setIfInBounds_toArray, List.set_cons_zero, List.set_cons_succ])
        | (refine mv_free _ (Or.inr ⟨by rfl, rfl⟩) (⟨c0, p1, p3, hx⟩) ?_
           simp only [Act.put, List.setIfInBounds_toArray, List.set_cons_zero, List.set_cons_succ])
    refine mv_step (fun K hK => ?_)
    go_simp
    rw [← eV1.out, ← ef1.out]
    clear c0 c1 c2 c3 c4 c5 c6 c7 c8 c9 z0 z1 z2 z3 z4 z5 z6 z7 z8 z9 p0 p1 p2 p3 e0 e1 e2 e3 hx
    have hP1 := HP.out _ hB1.out
    have hF1 := HF.out _ hB1.out
    have c0 := hP1.c 0 _ rfl
    have p1 := hF1.c 1 _ rfl
    have p3 := hF1.c 3 _ rfl
    have hx := hx1.out
    refine hK.out _ _ _ (fun u hu => hu) (⟨c0, p1, p3, hx⟩) ?_
    clear hK K
    obtain ⟨j0, j1, j2, j3, g0, g1, g2, g3, -⟩ := hG1.out
    refine mv_step (fun K hK => ?_)
    go_simp
    rw [← eV2.out]
    clear c0 p1 p3 hx j0 j1 j2 j3 g0 g1 g2 g3 hP1 hF1 hx1 hG1 hB1
    have hP1 := HP.out _ hB2.out
    have hF1 := HF.out _ hB2.out
    have c0 := hP1.c 0 _ rfl
    have p1 := hF1.c 1 _ rfl
    have p3 := hF1.c 3 _ rfl
    have hx := hx2.out
    refine hK.out _ _ _ (fun u hu => hu) (⟨c0, p1, p3, hx⟩) ?_
    clear hK K
    refine mv_done ?_
    have S3 := S2'.out.drew
    have hB3 := hB2.out.drew
    have hG3 := hG2.out.drew
    clear c0 p1 p3 hx hP1 hF1 hx2 hB2 hG2 S2' eV2 eV1
    generalize V2.drew = v3 at *
    clear V1 V2 hrb
    replace S3 := Lib.hid S3
    cases hfg : frB id q x ft
    · have RG := RG.out
      rw [hfg] at RG
      replace RG := Lib.hid RG
      obtain ⟨j0, j1, j2, j3, -, -, -, -, -⟩ := hG3
      clear hfg
      go_wp2_with fail
      refine (RG.out _).mono ?_
      rintro e w4 ⟨rfl, hb4⟩
      have hB4 := Lib.hid (hB3.trans (hb4.mono (by have := hB3.size; have := hz.out; omega)))
      clear hb4 hB3 j0 j1 j2 j3
      go_wp2_with fail
      all_goals first | (exfalso; omega) | skip
      all_goals
        refine (LV.out _).mono ?_
        rintro e w9 ⟨rfl, hb9⟩
        have hbb9 := Lib.hid ((hb0.trans (hB4.out.mono (by omega))).trans (hb9.mono (hb0.trans (hB4.out.mono (by omega))).size))
        clear hb9
        go_wp2
        go_ret
        exact ⟨rfl, hbb9.out⟩
    have RG := RG.out
    rw [hfg] at RG
    replace RG := Lib.hid RG
    have hG3' := hG3
    obtain ⟨j0, j1, j2, j3, -, -, -, -, -⟩ := hG3'
    go_wp2_with fail
    refine (RG.out _).mono ?_
    rintro e w4 ⟨rfl, hb4⟩
    have S4 := Lib.hid (S3.out.bel hb4)
    have hG4 := hG3.keep hb4
    have hG4' := Lib.hid hG4
    have hB4 := hB3.trans (hb4.mono (by have := hB3.size; have := hz.out; omega))
    clear hb4 hB3 j0 j1 j2 j3 S3 hG3 RG
    have AT := fun u => rat14_any (clR_ok cr) x ft u
    obtain ⟨V', eV'⟩ : ∃ V', V' = clV ga of sl dr x ft := ⟨_, rfl⟩
    rw [← eV'] at AT
    have vb := clV_bd (clR_ok cr) ft x
    rw [← eV'] at vb
    obtain ⟨vb1, vb2⟩ := vb
    replace AT := Lib.hid AT
    have hP4 := HP.out _ hB4
    obtain ⟨c0, z0⟩ := hP4.one 0 rfl
    obtain ⟨c1, z1⟩ := hP4.one 1 rfl
    obtain ⟨c2, z2⟩ := hP4.one 2 rfl
    obtain ⟨c3, z3⟩ := hP4.one 3 rfl
    obtain ⟨c4, z4⟩ := hP4.one 4 rfl
    obtain ⟨c5, z5⟩ := hP4.one 5 rfl
    obtain ⟨c6, z6⟩ := hP4.one 6 rfl
    obtain ⟨c7, z7⟩ := hP4.one 7 rfl
    obtain ⟨c8, z8⟩ := hP4.one 8 rfl
    obtain ⟨c9, z9⟩ := hP4.one 9 rfl
    obtain ⟨d0, d1, d2, d3, x0, x1, x2, x3, -⟩ := hG4
    go_wp2_with fail
    refine (AT.out _).mono ?_
    rintro e w5 ⟨rfl, hb5⟩
    clear d0 d1 d2 d3 x0 x1 x2 x3 c0 c1 c2 c3 c4 c5 c6 c7 c8 c9 z0 z1 z2 z3 z4 z5 z6 z7 z8 z9
    replace S4 := Lib.hid (S4.out.bel hb5)
    have hG4 := hG4'.out.keep hb5
    replace hB4 := hB4.trans (hb5.mono (by have := hB4.size; have := hz.out; omega))
    clear hb5 hP4 hG4' AT
    have hP4 := HP.out _ hB4
    obtain ⟨c0, z0⟩ := hP4.one 0 rfl
    obtain ⟨c1, z1⟩ := hP4.one 1 rfl
    obtain ⟨c2, z2⟩ := hP4.one 2 rfl
    obtain ⟨c3, z3⟩ := hP4.one 3 rfl
    obtain ⟨c4, z4⟩ := hP4.one 4 rfl
    obtain ⟨c5, z5⟩ := hP4.one 5 rfl
    obtain ⟨c6, z6⟩ := hP4.one 6 rfl
    obtain ⟨c7, z7⟩ := hP4.one 7 rfl
    obtain ⟨c8, z8⟩ := hP4.one 8 rfl
    obtain ⟨c9, z9⟩ := hP4.one 9 rfl
    obtain ⟨d0, d1, d2, d3, x0, x1, x2, x3, -⟩ := hG4
    clear hP4
    have w1' : IntKind.i64.wrap (V' - last) = V' - last := by rw [IntKind.wrap_i64]; omega
    have w2' : IntKind.i64.wrap (last - V') = last - V' := by rw [IntKind.wrap_i64]; omega
    replace eV' := Lib.hid eV'
    rcases hh.out with ⟨rfl, rfl⟩ | ⟨rfl, h1, h2, h3⟩
    · by_cases hbad : V' < lo ∨ hi < V'
      · clear S4 w1' w2'
        go_wp2_with fail
        all_goals first | (exfalso; omega) | skip
        all_goals
          refine (LV.out _).mono ?_
          rintro e w9 ⟨rfl, hb9⟩
          have hbb9 := Lib.hid ((hb0.trans (hB4.mono (by omega))).trans (hb9.mono (hb0.trans (hB4.mono (by omega))).size))
          clear hb9
          go_wp2
          go_ret
          exact ⟨rfl, hbb9.out⟩
      · have v1 : lo ≤ V' := by omega
        have v2 : V' ≤ hi := by omega
        obtain ⟨Z, eZ⟩ : ∃ Z, Z = V' := ⟨_, rfl⟩
        have SS := Lib.hid (fun u (S : Sn b l g y ga of sl dr (lkC id pa li sq lv lt false 0 (k : Int) 0) (gaC lo hi ra 0 false 0) (lgC sh yv false) u) (g5 c5 : Nat) (hr : RowIs .u8 u (some ⟨g5, 0, none⟩) (puL id q x ft)) (hg : g5 ≠ l) => sh_step u S hid cr gr hs (by omega) hfg y1 y2 l0 l1 eV'.out v1 v2 (.inl ⟨rfl, rfl⟩) (eZ.trans (lgV_self sh V').symm) g5 c5 hr hg)
        have RP := Lib.hid (fun u => rput_ok id q x ft u hfg)
        have b1' : -549755813887 ≤ Z ∧ Z ≤ 549755813887 := by omega
        have r1' : V' ≤ Z := by omega
        have r2' : Z ≤ V' := by omega
        replace eZ := Lib.hid eZ
        clear hbad hfg eV' w1' w2'
        go_wp2_with fail
        refine (RP.out _).mono ?_
        rintro e w5 ⟨g5, cp, rfl, ho5, hq5⟩
        obtain ⟨hr5, hg5, -⟩ := own_bytes ho5 (by decide) rfl
        have S5 := S4.out.bel hq5
        have ST := Lib.hid (SS.out w5 S5 g5 cp hr5 (by have := S4.out.hl.lt; omega))
        have hB5 := hB4.trans (hq5.mono (by have := hB4.size; have := hz.out; omega))
        clear ho5 hq5 hr5 hg5 S5 S4 hB4 RP SS d0 d1 d2 d3 x0 x1 x2 x3 c0 c1 c2 c3 c4 c5 c6 c7 c8 c9 z0 z1 z2 z3 z4 z5 z6 z7 z8 z9
        go_wp2_with fail
        refine ST.out.mono ?_
        rintro e w6 ⟨rfl, S6, B6⟩
        have hB6 := hB5.trans (B6.below nl ng ny (by have := hB5.size; have := hz.out; omega))
        clear B6 ST hB5
        go_upto_region 23 with (fail)
        obtain ⟨w7, e7, hm7, hA7, hz7⟩ := rdb_box w6 Z 0
        rw [← e7]
        replace e7 := Lib.hid e7
        obtain ⟨qa, eqa⟩ : ∃ qa, qa = w6.heap.size := ⟨_, rfl⟩
        rw [← eqa] at hA7 ⊢
        have S7 := S6.bel hm7
        have hB7 := hB6.trans (hm7.mono (by have := hB6.size; have := hz.out; omega))
        clear S6 hm7 hz7 hB6 eqa
        go_wp2_with fail
        refine (slast_any w7 S7).mono ?_
        rintro e w8 ⟨rfl, rfl⟩
        have S8 := S7.drew
        have hA8 := hA7.drew
        have hB8 := hB7.drew
        clear S7 hA7 hB7
        generalize w7.drew = w8 at *
        have SL := sstale_any w8 S8
        rw [show decide (pa < 0) = false by simp; omega] at SL
        replace SL := Lib.hid SL
        replace S8 := Lib.hid S8
        obtain ⟨p0, e0⟩ := hA8.one 0 rfl
        obtain ⟨p1, e1⟩ := hA8.one 1 rfl
        go_wp2_with fail
        all_goals first | (exfalso; omega) | skip
        refine SL.out.mono ?_
        rintro e w9 ⟨rfl, rfl⟩
        have S9 := Lib.hid S8.out.drew
        have hB9 := Lib.hid hB8.drew
        clear p0 p1 e0 e1 hA8 hB8 S8 SL
        go_wp2
        go_roundw
        case rel => exact ⟨k + 1, true, id, q, x, ft, V', Z, V', V', by omega, by go_num, rfl, rfl, rfl, rfl, by omega, by omega, by omega, by omega, Lib.hid (.inr ⟨rfl, r1', r2', by rw [hq.out]; congr 1; push_cast; omega⟩), Lib.hid (by have := S9.out; rwa [show ((k : Int) + 1) = ((k + 1 : Nat) : Int) by push_cast; rfl] at this), hB9.out⟩
        case measure => simp [intOf]; omega
    · by_cases hbad : V' < lo ∨ hi < V' ∨ ra < V' - last ∨ ra < last - V'
      · clear S4 hh h3
        go_wp2_with fail
        all_goals first | (exfalso; omega) | skip
        all_goals
          refine (LV.out _).mono ?_
          rintro e w9 ⟨rfl, hb9⟩
          have hbb9 := Lib.hid ((hb0.trans (hB4.mono (by omega))).trans (hb9.mono (hb0.trans (hB4.mono (by omega))).size))
          clear hb9
          go_wp2
          go_ret
          exact ⟨rfl, hbb9.out⟩
      · have v1 : lo ≤ V' := by omega
        have v2 : V' ≤ hi := by omega
        have v3' : V' - last ≤ ra := by omega
        have v4' : last - V' ≤ ra := by omega
        obtain ⟨Z, eZ⟩ : ∃ Z, Z = lgV sh yv V' := ⟨_, rfl⟩
        have hq' := hq.out
        have SS := Lib.hid (fun u (S : Sn b l g y ga of sl dr (lkC id pa li sq lv lt true 0 (k : Int) 0) (gaC lo hi ra last true 0) (lgC sh yv true) u) (g5 c5 : Nat) (hr : RowIs .u8 u (some ⟨g5, 0, none⟩) (puL id q x ft)) (hg : g5 ≠ l) => sh_step u S hid cr gr hs (by omega) hfg y1 y2 l0 l1 eV'.out v1 v2 (.inr ⟨rfl, v3', v4', by omega, by omega, by omega⟩) eZ g5 c5 hr hg)
        have RP := Lib.hid (fun u => rput_ok id q x ft u hfg)
        have bz := lgV_between sh yv V' (by omega)
        rw [← eZ] at bz
        have b1' : -549755813887 ≤ Z ∧ Z ≤ 549755813887 := by omega
        have bz' : (yv ≤ Z ∧ Z ≤ V') ∨ (V' ≤ Z ∧ Z ≤ yv) := by omega
        replace eZ := Lib.hid eZ
        clear hbad hfg eV' hh h3 hq' bz
        rcases (show V' < low ∨ high < V' ∨ (low ≤ V' ∧ V' ≤ high) by omega) with hc | hc | ⟨hc, hc2⟩
        · have r1' : V' ≤ Z := by omega
          have r2' : Z ≤ high := by omega
          have r3' : V' ≤ high := by omega
          clear bz'
          go_wp2_with fail
          refine (RP.out _).mono ?_
          rintro e w5 ⟨g5, cp, rfl, ho5, hq5⟩
          obtain ⟨hr5, hg5, -⟩ := own_bytes ho5 (by decide) rfl
          have S5 := S4.out.bel hq5
          have ST := Lib.hid (SS.out w5 S5 g5 cp hr5 (by have := S4.out.hl.lt; omega))
          have hB5 := hB4.trans (hq5.mono (by have := hB4.size; have := hz.out; omega))
          clear ho5 hq5 hr5 hg5 S5 S4 hB4 RP SS d0 d1 d2 d3 x0 x1 x2 x3 c0 c1 c2 c3 c4 c5 c6 c7 c8 c9 z0 z1 z2 z3 z4 z5 z6 z7 z8 z9
          go_wp2_with fail
          refine ST.out.mono ?_
          rintro e w6 ⟨rfl, S6, B6⟩
          have hB6 := hB5.trans (B6.below nl ng ny (by have := hB5.size; have := hz.out; omega))
          clear B6 ST hB5
          go_upto_region 23 with (fail)
          obtain ⟨w7, e7, hm7, hA7, hz7⟩ := rdb_box w6 Z 0
          rw [← e7]
          replace e7 := Lib.hid e7
          obtain ⟨qa, eqa⟩ : ∃ qa, qa = w6.heap.size := ⟨_, rfl⟩
          rw [← eqa] at hA7 ⊢
          have S7 := S6.bel hm7
          have hB7 := hB6.trans (hm7.mono (by have := hB6.size; have := hz.out; omega))
          clear S6 hm7 hz7 hB6 eqa
          go_wp2_with fail
          refine (slast_any w7 S7).mono ?_
          rintro e w8 ⟨rfl, rfl⟩
          have S8 := S7.drew
          have hA8 := hA7.drew
          have hB8 := hB7.drew
          clear S7 hA7 hB7
          generalize w7.drew = w8 at *
          have SL := sstale_any w8 S8
          rw [show decide (pa < 0) = false by simp; omega] at SL
          replace SL := Lib.hid SL
          replace S8 := Lib.hid S8
          obtain ⟨p0, e0⟩ := hA8.one 0 rfl
          obtain ⟨p1, e1⟩ := hA8.one 1 rfl
          go_wp2_with fail
          all_goals first | (exfalso; omega) | skip
          refine SL.out.mono ?_
          rintro e w9 ⟨rfl, rfl⟩
          have S9 := Lib.hid S8.out.drew
          have hB9 := Lib.hid hB8.drew
          clear p0 p1 e0 e1 hA8 hB8 S8 SL
          go_wp2
          go_roundw
          case rel => exact ⟨k + 1, true, id, q, x, ft, V', Z, V', high, by omega, by go_num, rfl, rfl, rfl, rfl, by omega, by omega, by omega, by omega, Lib.hid (.inr ⟨rfl, r1', r2', by rw [hq.out]; congr 1; push_cast; omega⟩), Lib.hid (by have := S9.out; rwa [show ((k : Int) + 1) = ((k + 1 : Nat) : Int) by push_cast; rfl] at this), hB9.out⟩
          case measure => simp [intOf]; omega
        · have r1' : low ≤ Z := by omega
          have r2' : Z ≤ V' := by omega
          have r3' : low ≤ V' := by omega
          clear bz'
          go_wp2_with fail
          refine (RP.out _).mono ?_
          rintro e w5 ⟨g5, cp, rfl, ho5, hq5⟩
          obtain ⟨hr5, hg5, -⟩ := own_bytes ho5 (by decide) rfl
          have S5 := S4.out.bel hq5
          have ST := Lib.hid (SS.out w5 S5 g5 cp hr5 (by have := S4.out.hl.lt; omega))
          have hB5 := hB4.trans (hq5.mono (by have := hB4.size; have := hz.out; omega))
          clear ho5 hq5 hr5 hg5 S5 S4 hB4 RP SS d0 d1 d2 d3 x0 x1 x2 x3 c0 c1 c2 c3 c4 c5 c6 c7 c8 c9 z0 z1 z2 z3 z4 z5 z6 z7 z8 z9
          go_wp2_with fail
          refine ST.out.mono ?_
          rintro e w6 ⟨rfl, S6, B6⟩
          have hB6 := hB5.trans (B6.below nl ng ny (by have := hB5.size; have := hz.out; omega))
          clear B6 ST hB5
          go_upto_region 23 with (fail)
          obtain ⟨w7, e7, hm7, hA7, hz7⟩ := rdb_box w6 Z 0
          rw [← e7]
          replace e7 := Lib.hid e7
          obtain ⟨qa, eqa⟩ : ∃ qa, qa = w6.heap.size := ⟨_, rfl⟩
          rw [← eqa] at hA7 ⊢
          have S7 := S6.bel hm7
          have hB7 := hB6.trans (hm7.mono (by have := hB6.size; have := hz.out; omega))
          clear S6 hm7 hz7 hB6 eqa
          go_wp2_with fail
          refine (slast_any w7 S7).mono ?_
          rintro e w8 ⟨rfl, rfl⟩
          have S8 := S7.drew
          have hA8 := hA7.drew
          have hB8 := hB7.drew
          clear S7 hA7 hB7
          generalize w7.drew = w8 at *
          have SL := sstale_any w8 S8
          rw [show decide (pa < 0) = false by simp; omega] at SL
          replace SL := Lib.hid SL
          replace S8 := Lib.hid S8
          obtain ⟨p0, e0⟩ := hA8.one 0 rfl
          obtain ⟨p1, e1⟩ := hA8.one 1 rfl
          go_wp2_with fail
          all_goals first | (exfalso; omega) | skip
          refine SL.out.mono ?_
          rintro e w9 ⟨rfl, rfl⟩
          have S9 := Lib.hid S8.out.drew
          have hB9 := Lib.hid hB8.drew
          clear p0 p1 e0 e1 hA8 hB8 S8 SL
          go_wp2
          go_roundw
          case rel => exact ⟨k + 1, true, id, q, x, ft, V', Z, low, V', by omega, by go_num, rfl, rfl, rfl, rfl, by omega, by omega, by omega, by omega, Lib.hid (.inr ⟨rfl, r1', r2', by rw [hq.out]; congr 1; push_cast; omega⟩), Lib.hid (by have := S9.out; rwa [show ((k : Int) + 1) = ((k + 1 : Nat) : Int) by push_cast; rfl] at this), hB9.out⟩
          case measure => simp [intOf]; omega
        · have r1' : low ≤ Z := by omega
          have r2' : Z ≤ high := by omega
          have r3' : low ≤ high := by omega
          clear bz'
          go_wp2_with fail
          refine (RP.out _).mono ?_
          rintro e w5 ⟨g5, cp, rfl, ho5, hq5⟩
          obtain ⟨hr5, hg5, -⟩ := own_bytes ho5 (by decide) rfl
          have S5 := S4.out.bel hq5
          have ST := Lib.hid (SS.out w5 S5 g5 cp hr5 (by have := S4.out.hl.lt; omega))
          have hB5 := hB4.trans (hq5.mono (by have := hB4.size; have := hz.out; omega))
          clear ho5 hq5 hr5 hg5 S5 S4 hB4 RP SS d0 d1 d2 d3 x0 x1 x2 x3 c0 c1 c2 c3 c4 c5 c6 c7 c8 c9 z0 z1 z2 z3 z4 z5 z6 z7 z8 z9
          go_wp2_with fail
          refine ST.out.mono ?_
          rintro e w6 ⟨rfl, S6, B6⟩
          have hB6 := hB5.trans (B6.below nl ng ny (by have := hB5.size; have := hz.out; omega))
          clear B6 ST hB5
          go_upto_region 23 with (fail)
          obtain ⟨w7, e7, hm7, hA7, hz7⟩ := rdb_box w6 Z 0
          rw [← e7]
          replace e7 := Lib.hid e7
          obtain ⟨qa, eqa⟩ : ∃ qa, qa = w6.heap.size := ⟨_, rfl⟩
          rw [← eqa] at hA7 ⊢
          have S7 := S6.bel hm7
          have hB7 := hB6.trans (hm7.mono (by have := hB6.size; have := hz.out; omega))
          clear S6 hm7 hz7 hB6 eqa
          go_wp2_with fail
          refine (slast_any w7 S7).mono ?_
          rintro e w8 ⟨rfl, rfl⟩
          have S8 := S7.drew
          have hA8 := hA7.drew
          have hB8 := hB7.drew
          clear S7 hA7 hB7
          generalize w7.drew = w8 at *
          have SL := sstale_any w8 S8
          rw [show decide (pa < 0) = false by simp; omega] at SL
          replace SL := Lib.hid SL
          replace S8 := Lib.hid S8
          obtain ⟨p0, e0⟩ := hA8.one 0 rfl
          obtain ⟨p1, e1⟩ := hA8.one 1 rfl
          go_wp2_with fail
          all_goals first | (exfalso; omega) | skip
          refine SL.out.mono ?_
          rintro e w9 ⟨rfl, rfl⟩
          have S9 := Lib.hid S8.out.drew
          have hB9 := Lib.hid hB8.drew
          clear p0 p1 e0 e1 hA8 hB8 S8 SL
          go_wp2
          go_roundw
          case rel => exact ⟨k + 1, true, id, q, x, ft, V', Z, low, high, by omega, by go_num, rfl, rfl, rfl, rfl, by omega, by omega, by omega, by omega, Lib.hid (.inr ⟨rfl, r1', r2', by rw [hq.out]; congr 1; push_cast; omega⟩), Lib.hid (by have := S9.out; rwa [show ((k : Int) + 1) = ((k + 1 : Nat) : Int) by push_cast; rfl] at this), hB9.out⟩
          case measure => simp [intOf]; omega
end Go.Proofs.Ytbbmkmkalghaeaa
