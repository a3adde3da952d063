/- The law KalmanPlays, walked. -/
import Derived.Test.YtakocggclopngaaKal7
import Derived.Test.YtakocggclopngaaKal8a
import Derived.Test.YtakocggclopngaaKal8b
namespace Go.Proofs.Ytakocggclopngaa
open Go.ChangeShapes Go.WideShapes Go.ChangeAt Go.RowKit
set_option linter.unusedVariables false
set_option linter.unusedSimpArgs false
theorem rkpredict (ob : Nat) (S : KS) (g : Int) (N : Nat → Int) (w : World) (k : Held ob (KeC S.X S.P g S.tk S.rf) w) :
    Calls Try.prog 57 #[.pointer (some ⟨ob, 0, none⟩), .agg #[.int .i64 (N 0), .int .i64 (N 1), .int .i64 (N 2)]] w fun e w' => e = .returned (.int .i64 (kpE N)) ∧ Held ob (KeC (kpS S N).X (kpS S N).P g (kpS S N).tk (kpS S N).rf) w' ∧ Beside ob w w' := by
  cases hn : kIn N 0 68719476736
  · rw [show kpE N = 2 by unfold kpE; rw [hn]; rfl, show kpS S N = S by unfold kpS; rw [hn]; rfl]
    exact (rkpred_no ob N w hn).mono fun e w' ⟨he, hb⟩ => ⟨he, k.bel hb, .of_below hb⟩
  · rw [show kpE N = 0 by unfold kpE; rw [hn]; rfl, show kpS S N = ⟨S.X, kPr S.P N, S.tk, S.rf⟩ by unfold kpS; rw [hn]; rfl]
    exact rkpred ob S.X S.P g S.tk S.rf N w k hn
theorem rkupdate (ob : Nat) (S : KS) (g : Int) (H : Nat → Int) (z n : Int) (w : World) (k : Held ob (KeC S.X S.P g S.tk S.rf) w) (g1 : 1 ≤ g ∧ g ≤ 68719476736) (t1 : 0 ≤ S.tk ∧ S.tk < 1000000) (t2 : 0 ≤ S.rf ∧ S.rf < 1000000) :
    Calls Try.prog 58 #[.pointer (some ⟨ob, 0, none⟩), .agg #[.int .i64 (H 0), .int .i64 (H 1), .int .i64 (H 2)], .int .i64 z, .int .i64 n] w fun e w' => e = .returned (.int .i64 (kuE S g H z n)) ∧ Held ob (KeC (kuS S g H z n).X (kuS S g H z n).P g (kuS S g H z n).tk (kuS S g H z n).rf) w' ∧ Beside ob w w' := by
  cases hR : kuR H z n
  · rw [show kuE S g H z n = 2 by unfold kuE; rw [hR]; rfl, show kuS S g H z n = S by unfold kuS; rw [hR]; rfl]
    suffices h : Calls Try.prog 58 #[.pointer (some ⟨ob, 0, none⟩), .agg #[.int .i64 (H 0), .int .i64 (H 1), .int .i64 (H 2)], .int .i64 z, .int .i64 n] w fun e w' => e = .returned (.int .i64 2) ∧ Below w.heap.size w w' from h.mono fun e w' ⟨he, hb⟩ => ⟨he, k.bel hb, .of_below hb⟩
    by_cases h0 : 1 ≤ n
    · by_cases h1 : n ≤ 68719476736
      · cases h2 : kIn H (-16777216) 16777216
        · exact rku_r2 ob H z n h0 h1 h2 w
        · by_cases h3 : -68719476736 ≤ z
          · by_cases h4 : z ≤ 68719476736
            · unfold kuR at hR
              rw [decide_eq_true (show 1 ≤ n ∧ n ≤ 68719476736 from ⟨h0, h1⟩), h2, decide_eq_true (show -68719476736 ≤ z ∧ z ≤ 68719476736 from ⟨h3, h4⟩)] at hR
              cases hR
            · exact rku_r4 ob H z n h0 h1 h2 h3 (by omega) w
          · exact rku_r3 ob H z n h0 h1 h2 (by omega) w
      · exact rku_r1 ob H z n h0 (by omega) w
    · exact rku_r0 ob H z n (by omega) w
  · obtain ⟨h0, h1, h2⟩ := kuR_true hR
    have h0' := of_decide_eq_true h0
    have h2' := of_decide_eq_true h2
    cases hh : kHi g (kOff S.X H z)
    · rw [show kuE S g H z n = 0 by unfold kuE; rw [hR, hh]; rfl, show kuS S g H z n = ⟨kX S.X S.P H n (kOff S.X H z), kP S.P H n, S.tk + 1, S.rf⟩ by unfold kuS; rw [hR, hh]; rfl]
      have hg := of_decide_eq_false hh
      by_cases hd : dtI H (kV S.P H) < 0
      · exact rku_ok0 ob S.X S.P g S.tk S.rf H z n w k h0'.1 h0'.2 h1 h2'.1 h2'.2 t1 t2 g1 ⟨by omega, by omega⟩ hd
      · exact rku_ok1 ob S.X S.P g S.tk S.rf H z n w k h0'.1 h0'.2 h1 h2'.1 h2'.2 t1 t2 g1 ⟨by omega, by omega⟩ (by omega)
    · rw [show kuE S g H z n = 9 by unfold kuE; rw [hR, hh]; rfl, show kuS S g H z n = ⟨S.X, S.P, S.tk, S.rf + 1⟩ by unfold kuS; rw [hR, hh]; rfl]
      have hg := of_decide_eq_true hh
      by_cases hp : g < kOff S.X H z
      · exact rku_high0 ob S.X S.P g S.tk S.rf H z n w k h0'.1 h0'.2 h1 h2'.1 h2'.2 t1 t2 g1 hp
      · exact rku_high1 ob S.X S.P g S.tk S.rf H z n w k h0'.1 h0'.2 h1 h2'.1 h2'.2 t1 t2 g1 ⟨by omega, by omega⟩
set_option maxRecDepth 100000 in
set_option maxHeartbeats 8000000 in
theorem law_KalmanPlays (A D : Nat → Int) (g : Int) (t : Option Addr) (cap : Nat) (rows : List (List Value)) (w : World) (ht : Tab [none, some .i64, some .i64, some .i64, some .i64, some .i64] w t rows) (hl : rows.length ≤ maxLen) : Calls Try.prog 8 #[.agg #[.int .i64 (A 0), .int .i64 (A 1), .int .i64 (A 2), .int .i64 (D 0), .int .i64 (D 1), .int .i64 (D 2), .int .i64 g], .slice t rows.length cap] w fun e w' => e = .returned (.bool true) ∧ Below w.heap.size w w' := by
  unfold maxLen at hl
  obtain ⟨V, eV, hb0, hA, hz⟩ := ksu_box w A D g
  have KA := Lib.hid hA
  have RR := fun u => rright A D g u
  replace eV := Lib.hid eV
  replace hz := Lib.hid hz
  have BS := Lib.hid hb0
  clear hA hb0
  have hh_ := KA.out
  obtain ⟨c0, f0⟩ := hh_.one 0 rfl
  obtain ⟨c1, f1⟩ := hh_.one 1 rfl
  obtain ⟨c2, f2⟩ := hh_.one 2 rfl
  obtain ⟨c3, f3⟩ := hh_.one 3 rfl
  obtain ⟨c4, f4⟩ := hh_.one 4 rfl
  obtain ⟨c5, f5⟩ := hh_.one 5 rfl
  obtain ⟨c6, f6⟩ := hh_.one 6 rfl
  clear hh_
  cases hR : knR A D g
  · rw [hR] at RR
    replace RR := Lib.hid RR
    clear hR
    go_enter Try.func8, Try.ntmps8
    go_wp2_with fail
    rw [← eV.out]
    go_wp2_with fail
    refine (RR.out _).mono ?_
    rintro e w1 ⟨rfl, hq⟩
    replace BS := Lib.hid (BS.out.trans (hq.mono BS.out.size))
    go_wp2_with (go_at_call 54; refine (lives41 _).mono ?_; rintro e w1 ⟨rfl, hb2⟩)
    go_ret
    exact ⟨rfl, BS.out.trans (hb2.mono BS.out.size)⟩
  · obtain ⟨gb, gd, ga⟩ := knR_true hR
    have ok0 := Lib.hid (kn_ok ga gd)
    have NW := Lib.hid (fun u => knew_ok A D g hR u)
    have RN := Lib.hid (fun u => rknew A D g u)
    rw [hR] at RR
    replace RR := Lib.hid RR
    clear hR gd ga
    by_cases hbig : 60 < rows.length
    · go_enter Try.func8, Try.ntmps8
      go_wp2_with fail
      rw [← eV.out]
      go_wp2_with fail
      refine (RR.out _).mono ?_
      rintro e w1 ⟨rfl, hq⟩
      replace BS := Lib.hid (BS.out.trans (hq.mono BS.out.size))
      go_wp2_with (go_at_call 54; refine (lives41 _).mono ?_; rintro e w1 ⟨rfl, hb2⟩)
      go_ret
      exact ⟨rfl, BS.out.trans (hb2.mono BS.out.size)⟩
    · go_enter Try.func8, Try.ntmps8
      go_wp2_with fail
      rw [← eV.out]
      go_wp2_with fail
      refine (RR.out _).mono ?_
      rintro e w1 ⟨rfl, hq⟩
      replace BS := Lib.hid (BS.out.trans (hq.mono BS.out.size))
      replace KA := Lib.hid (KA.out.bel hq)
      clear hq c0 f0 c1 f1 c2 f2 c3 f3 c4 f4 c5 f5 c6 f6
      have hh_ := KA.out
      obtain ⟨c0, f0⟩ := hh_.one 0 rfl
      obtain ⟨c1, f1⟩ := hh_.one 1 rfl
      obtain ⟨c2, f2⟩ := hh_.one 2 rfl
      obtain ⟨c3, f3⟩ := hh_.one 3 rfl
      obtain ⟨c4, f4⟩ := hh_.one 4 rfl
      obtain ⟨c5, f5⟩ := hh_.one 5 rfl
      obtain ⟨c6, f6⟩ := hh_.one 6 rfl
      clear hh_
      go_wp2_with fail
      refine (NW.out _).mono ?_
      rintro e w2 ⟨b, hb, rfl, k1, hq⟩
      have bw : w.heap.size < b := by have := (hq).size; have := KA.out.lt; omega
      have KO := Lib.hid k1
      replace KA := Lib.hid (KA.out.bel hq)
      replace BS := Lib.hid (BS.out.trans (hq.mono BS.out.size))
      clear hq k1 hb c0 f0 c1 f1 c2 f2 c3 f3 c4 f4 c5 f5 c6 f6
      have hh_ := KA.out
      obtain ⟨c0, f0⟩ := hh_.one 0 rfl
      obtain ⟨c1, f1⟩ := hh_.one 1 rfl
      obtain ⟨c2, f2⟩ := hh_.one 2 rfl
      obtain ⟨c3, f3⟩ := hh_.one 3 rfl
      obtain ⟨c4, f4⟩ := hh_.one 4 rfl
      obtain ⟨c5, f5⟩ := hh_.one 5 rfl
      obtain ⟨c6, f6⟩ := hh_.one 6 rfl
      clear hh_
      go_wp2_with fail
      refine (RN.out _).mono ?_
      rintro e w3 ⟨bm, hbm, rfl, k2, hq⟩
      have bmw : b < bm := by have := KO.out.lt; omega
      have KM := Lib.hid k2
      replace KO := Lib.hid (KO.out.bel hq)
      replace BS := Lib.hid (BS.out.trans (hq.mono BS.out.size))
      clear hq k2 hbm KA NW RN RR c0 f0 c1 f1 c2 f2 c3 f3 c4 f4 c5 f5 c6 f6
      replace KO := Lib.hid (show Held b (KeC (KS.mk A (dgl D) 0 0).X (KS.mk A (dgl D) 0 0).P g (KS.mk A (dgl D) 0 0).tk (KS.mk A (dgl D) 0 0).rf) w3 from KO.out)
      replace KM := Lib.hid (show Held bm (KeC (KS.mk A (dgl D) 0 0).X (KS.mk A (dgl D) 0 0).P g (KS.mk A (dgl D) 0 0).tk (KS.mk A (dgl D) 0 0).rf) w3 from KM.out)
      generalize KS.mk A (dgl D) 0 0 = S0 at *
      go_wp2_with fail
      go_loopw [8] (fun i v => ∃ (k : Nat) (S : KS), k ≤ rows.length ∧ i = .int .i64 k ∧ Hid (KSOk k S) ∧ Hid (Held b (KeC S.X S.P g S.tk S.rf) v) ∧ Hid (Held bm (KeC S.X S.P g S.tk S.rf) v) ∧ Hid (Below w.heap.size w v)) (fun i _ => rows.length - (intOf i).toNat)
      case atStart => exact ⟨0, S0, Nat.zero_le _, rfl, ok0, KO, KM, BS⟩
      case round =>
        clear ok0 KO KM BS
        obtain ⟨k, S, hk, rfl, ok, KO, KM, BS⟩ := hrel
        by_cases hlt : k < rows.length
        · obtain ⟨tb, off, bt, H, z, n, rfl, htb, hcells⟩ := op_at ht hlt
          have hcells := Lib.hid hcells
          clear ht
          obtain ⟨m0, m1, m2, m3, m4, m5⟩ := hcells.out wr BS.out
          have kb : (k : Int) ≤ 60 := by omega
          have EX := Lib.hid (fun u (kk : Held b (KeC S.X S.P g S.tk S.rf) u) => kexpect b S.X S.P g S.tk S.rf H z n u kk)
          have RD := Lib.hid (fun u => rdot H S.X u)
          have UP := Lib.hid (fun u (kk : Held b (KeC S.X S.P g S.tk S.rf) u) => kupdate b S g H z n u kk gb (by have := ok.out.t0; have := ok.out.t1; omega) (by have := ok.out.r0; have := ok.out.r1; omega))
          have RU := Lib.hid (fun u (kk : Held bm (KeC S.X S.P g S.tk S.rf) u) => rkupdate bm S g H z n u kk gb (by have := ok.out.t0; have := ok.out.t1; omega) (by have := ok.out.r0; have := ok.out.r1; omega))
          have PR := Lib.hid (fun u (kk : Held b (KeC S.X S.P g S.tk S.rf) u) => kpredict b S g H u kk ok.out.p.b)
          have RP := Lib.hid (fun u (kk : Held bm (KeC S.X S.P g S.tk S.rf) u) => rkpredict bm S g H u kk)
          have ok1 := Lib.hid (kuS_ok ok.out g H z n)
          have ok2 := Lib.hid (kpS_ok ok.out H)
          generalize kuE S g H z n = eu at *
          generalize kuS S g H z n = SU at *
          generalize kpE H = ep at *
          generalize kpS S H = SP at *
          generalize dtI H S.X = dx at *
          go_upto_region 9 with (fail)
          obtain ⟨xb, exb⟩ : ∃ xb, xb = wr.heap.size := ⟨_, rfl⟩
          have xl1 : bm < xb := by rw [exb]; exact KM.out.lt
          obtain ⟨w4, ew4⟩ : ∃ w4, w4 = wr.alloc (.cells #[.int .i64 (H 0), .int .i64 (H 1), .int .i64 (H 2), .int .i64 z, .int .i64 n] 86) := ⟨_, rfl⟩
          have KX := Lib.hid (show Held xb [.int .i64 (H 0), .int .i64 (H 1), .int .i64 (H 2), .int .i64 z, .int .i64 n] w4 by rw [ew4, exb]; exact Held.new wr [.int .i64 (H 0), .int .i64 (H 1), .int .i64 (H 2), .int .i64 z, .int .i64 n] 86)
          have hq4 : Below wr.heap.size wr w4 := by rw [ew4]; exact (Below.refl _ _).alloc (Nat.le_refl _) _
          replace KO := Lib.hid (KO.out.bel hq4)
          replace KM := Lib.hid (KM.out.bel hq4)
          replace BS := Lib.hid (BS.out.trans (hq4.mono BS.out.size))
          clear hq4 m0 m1 m2 m3 m4 m5
          rw [← ew4, ← exb]
          replace ew4 := Lib.hid ew4
          replace exb := Lib.hid exb
          have hh_ := KX.out
          obtain ⟨c0, f0⟩ := hh_.one 0 rfl
          obtain ⟨c1, f1⟩ := hh_.one 1 rfl
          obtain ⟨c2, f2⟩ := hh_.one 2 rfl
          obtain ⟨c3, f3⟩ := hh_.one 3 rfl
          obtain ⟨c4, f4⟩ := hh_.one 4 rfl
          clear hh_
          go_wp2_with fail
          refine (EX.out _ KO.out).mono ?_
          rintro e w5 ⟨rfl, hq⟩
          replace KO := Lib.hid (KO.out.bel hq)
          replace KM := Lib.hid (KM.out.bel hq)
          replace KX := Lib.hid (KX.out.bel hq)
          replace BS := Lib.hid (BS.out.trans (hq.mono BS.out.size))
          clear hq EX
          clear c0 f0 c1 f1 c2 f2 c3 f3 c4 f4
          have hh_ := KX.out
          obtain ⟨c0, f0⟩ := hh_.one 0 rfl
          obtain ⟨c1, f1⟩ := hh_.one 1 rfl
          obtain ⟨c2, f2⟩ := hh_.one 2 rfl
          obtain ⟨c3, f3⟩ := hh_.one 3 rfl
          obtain ⟨c4, f4⟩ := hh_.one 4 rfl
          clear hh_
          have x0 := KM.out.c 0 _ rfl
          have x1 := KM.out.c 1 _ rfl
          have x2 := KM.out.c 2 _ rfl
          go_wp2_with fail
          refine region_moves (fun u => u.cell? ⟨xb, 0, none⟩ = some (.int .i64 (H 0)) ∧ u.cell? ⟨xb, 1, none⟩ = some (.int .i64 (H 1)) ∧ u.cell? ⟨xb, 2, none⟩ = some (.int .i64 (H 2)) ∧ u.cell? ⟨bm, 0, none⟩ = some (.int .i64 (S.X 0)) ∧ u.cell? ⟨bm, 1, none⟩ = some (.int .i64 (S.X 1)) ∧ u.cell? ⟨bm, 2, none⟩ = some (.int .i64 (S.X 2))) [] [(.free, 0), (.free, 1), (.free, 2), (.free, 3), (.free, 4), (.take, 5), (.free, 6), (.free, 7), (.free, 8), (.take, 9), (.step, 10), (.free, 11), (.free, 12)] _ (by kernel_rfl) (by kernel_rfl) (by kernel_rfl) (by kernel_rfl) (by decide) rfl (fun _ _ _ _ _ h => h) ?_
          simp only [List.filterMap_cons, List.filterMap_nil, List.getElem?_toArray, List.getElem?_cons_zero, List.getElem?_cons_succ, Option.map_some]
          iterate 5
            first
              | (refine mv_free ?_ (Or.inl ⟨by rfl, ?_⟩) (⟨c0, c1, c2, x0, x1, x2⟩) ?_
                 rotate_left 1
                 · intro u
                   go_simp
                   try simp only [d1]
                   try simp only [d2]
                   try simp only [d3]
                   try with_reducible rfl
                 simp only [Act.put, List.setIfInBounds_toArray, List.set_cons_zero, List.set_cons_succ])
              | (refine mv_free _ (Or.inr ⟨by rfl, rfl⟩) (⟨c0, c1, c2, x0, x1, x2⟩) ?_
                 simp only [Act.put, List.setIfInBounds_toArray, List.set_cons_zero, List.set_cons_succ])
          iterate 1
            first
              | (refine mv_take ?_ (Or.inl ⟨by rfl, ?_⟩) (⟨c0, c1, c2, x0, x1, x2⟩) ?_
                 rotate_left 1
                 · intro u hu
                   (try dsimp only at hu)
                   go_simp
                   try with_reducible rfl
                 simp only [Act.put, List.setIfInBounds_toArray, List.set_cons_zero, List.set_cons_succ])
              | (refine mv_take _ (Or.inr ⟨by rfl, rfl⟩) (⟨c0, c1, c2, x0, x1, x2⟩) ?_
                 simp only [Act.put, List.setIfInBounds_toArray, List.set_cons_zero, List.set_cons_succ])
          iterate 3
            first
              | (refine mv_free ?_ (Or.inl ⟨by rfl, ?_⟩) (⟨c0, c1, c2, x0, x1, x2⟩) ?_
                 rotate_left 1
                 · intro u
                   go_simp
                   try simp only [d1]
                   try simp only [d2]
                   try simp only [d3]
                   try with_reducible rfl
                 simp only [Act.put, List.setIfInBounds_toArray, List.set_cons_zero, List.set_cons_succ])
              | (refine mv_free _ (Or.inr ⟨by rfl, rfl⟩) (⟨c0, c1, c2, x0, x1, x2⟩) ?_
                 simp only [Act.put, List.setIfInBounds_toArray, List.set_cons_zero, List.set_cons_succ])
          iterate 1
            first
              | (refine mv_take ?_ (Or.inl ⟨by rfl, ?_⟩) (⟨c0, c1, c2, x0, x1, x2⟩) ?_
                 rotate_left 1
                 · intro u hu
                   (try dsimp only at hu)
                   go_simp
                   try with_reducible rfl
                 simp only [Act.put, List.setIfInBounds_toArray, List.set_cons_zero, List.set_cons_succ])
              | (refine mv_take _ (Or.inr ⟨by rfl, rfl⟩) (⟨c0, c1, c2, x0, x1, x2⟩) ?_
                 simp only [Act.put, List.setIfInBounds_toArray, List.set_cons_zero, List.set_cons_succ])
          refine mv_step (fun K hK => ?_)
          go_simp
          refine (RD.out _).mono ?_
          rintro e w6 ⟨rfl, hq⟩
          replace KO := Lib.hid (KO.out.drew.bel hq)
          replace KM := Lib.hid (KM.out.drew.bel hq)
          replace KX := Lib.hid (KX.out.drew.bel hq)
          replace BS := Lib.hid (BS.out.drew.trans (hq.mono BS.out.size))
          clear hq RD x0 x1 x2
          clear c0 f0 c1 f1 c2 f2 c3 f3 c4 f4
          have hh_ := KX.out
          obtain ⟨c0, f0⟩ := hh_.one 0 rfl
          obtain ⟨c1, f1⟩ := hh_.one 1 rfl
          obtain ⟨c2, f2⟩ := hh_.one 2 rfl
          obtain ⟨c3, f3⟩ := hh_.one 3 rfl
          obtain ⟨c4, f4⟩ := hh_.one 4 rfl
          clear hh_
          have x0 := KM.out.c 0 _ rfl
          have x1 := KM.out.c 1 _ rfl
          have x2 := KM.out.c 2 _ rfl
          go_wp2_with fail
          refine hK.out _ _ _ (fun u hu => hu) (⟨c0, c1, c2, x0, x1, x2⟩) ?_
          clear hK K
          iterate 2
            first
              | (refine mv_free ?_ (Or.inl ⟨by rfl, ?_⟩) (⟨c0, c1, c2, x0, x1, x2⟩) ?_
                 rotate_left 1
                 · intro u
                   go_simp
                   try simp only [d1]
                   try simp only [d2]
                   try simp only [d3]
                   try with_reducible rfl
                 simp only [Act.put, List.setIfInBounds_toArray, List.set_cons_zero, List.set_cons_succ])
              | (refine mv_free _ (Or.inr ⟨by rfl, rfl⟩) (⟨c0, c1, c2, x0, x1, x2⟩) ?_
                 simp only [Act.put, List.setIfInBounds_toArray, List.set_cons_zero, List.set_cons_succ])
          refine mv_done ?_
          clear x0 x1 x2
          obtain ⟨m0, -⟩ := hcells.out w6 BS.out
          cases bt
          · have okZ := ok1
            go_wp2_with fail
            refine region_moves (fun u => u.cell? ⟨xb, 0, none⟩ = some (.int .i64 (H 0)) ∧ u.cell? ⟨xb, 1, none⟩ = some (.int .i64 (H 1)) ∧ u.cell? ⟨xb, 2, none⟩ = some (.int .i64 (H 2)) ∧ u.cell? ⟨xb, 3, none⟩ = some (.int .i64 z) ∧ u.cell? ⟨xb, 4, none⟩ = some (.int .i64 n)) [] [(.free, 0), (.take, 1), (.free, 3), (.free, 4), (.take, 5), (.free, 6), (.take, 7), (.free, 8), (.take, 9), (.step, 2), (.step, 10), (.free, 11)] _ (by kernel_rfl) (by kernel_rfl) (by kernel_rfl) (by kernel_rfl) (by decide) rfl (fun _ _ _ _ _ h => h) ?_
            simp only [List.filterMap_cons, List.filterMap_nil, List.getElem?_toArray, List.getElem?_cons_zero, List.getElem?_cons_succ, Option.map_some]
            iterate 1
              first
                | (refine mv_free ?_ (Or.inl ⟨by rfl, ?_⟩) (⟨c0, c1, c2, c3, c4⟩) ?_
                   rotate_left 1
                   · intro u
                     go_simp
                     try simp only [d1]
                     try simp only [d2]
                     try simp only [d3]
                     try with_reducible rfl
                   simp only [Act.put, List.setIfInBounds_toArray, List.set_cons_zero, List.set_cons_succ])
                | (refine mv_free _ (Or.inr ⟨by rfl, rfl⟩) (⟨c0, c1, c2, c3, c4⟩) ?_
                   simp only [Act.put, List.setIfInBounds_toArray, List.set_cons_zero, List.set_cons_succ])
            iterate 1
              first
                | (refine mv_take ?_ (Or.inl ⟨by rfl, ?_⟩) (⟨c0, c1, c2, c3, c4⟩) ?_
                   rotate_left 1
                   · intro u hu
                     (try dsimp only at hu)
                     go_simp
                     try with_reducible rfl
                   simp only [Act.put, List.setIfInBounds_toArray, List.set_cons_zero, List.set_cons_succ])
                | (refine mv_take _ (Or.inr ⟨by rfl, rfl⟩) (⟨c0, c1, c2, c3, c4⟩) ?_
                   simp only [Act.put, List.setIfInBounds_toArray, List.set_cons_zero, List.set_cons_succ])
            iterate 2
              first
                | (refine mv_free ?_ (Or.inl ⟨by rfl, ?_⟩) (⟨c0, c1, c2, c3, c4⟩) ?_
                   rotate_left 1
                   · intro u
                     go_simp
                     try simp only [d1]
                     try simp only [d2]
                     try simp only [d3]
                     try with_reducible rfl
                   simp only [Act.put, List.setIfInBounds_toArray, List.set_cons_zero, List.set_cons_succ])
                | (refine mv_free _ (Or.inr ⟨by rfl, rfl⟩) (⟨c0, c1, c2, c3, c4⟩) ?_
                   simp only [Act.put, List.setIfInBounds_toArray, List.set_cons_zero, List.set_cons_succ])
            iterate 1
              first
                | (refine mv_take ?_ (Or.inl ⟨by rfl, ?_⟩) (⟨c0, c1, c2, c3, c4⟩) ?_
                   rotate_left 1
                   · intro u hu
                     (try dsimp only at hu)
                     go_simp
                     try with_reducible rfl
                   simp only [Act.put, List.setIfInBounds_toArray, List.set_cons_zero, List.set_cons_succ])
                | (refine mv_take _ (Or.inr ⟨by rfl, rfl⟩) (⟨c0, c1, c2, c3, c4⟩) ?_
                   simp only [Act.put, List.setIfInBounds_toArray, List.set_cons_zero, List.set_cons_succ])
            iterate 1
              first
                | (refine mv_free ?_ (Or.inl ⟨by rfl, ?_⟩) (⟨c0, c1, c2, c3, c4⟩) ?_
                   rotate_left 1
                   · intro u
                     go_simp
                     try simp only [d1]
                     try simp only [d2]
                     try simp only [d3]
                     try with_reducible rfl
                   simp only [Act.put, List.setIfInBounds_toArray, List.set_cons_zero, List.set_cons_succ])
                | (refine mv_free _ (Or.inr ⟨by rfl, rfl⟩) (⟨c0, c1, c2, c3, c4⟩) ?_
                   simp only [Act.put, List.setIfInBounds_toArray, List.set_cons_zero, List.set_cons_succ])
            iterate 1
              first
                | (refine mv_take ?_ (Or.inl ⟨by rfl, ?_⟩) (⟨c0, c1, c2, c3, c4⟩) ?_
                   rotate_left 1
                   · intro u hu
                     (try dsimp only at hu)
                     go_simp
                     try with_reducible rfl
                   simp only [Act.put, List.setIfInBounds_toArray, List.set_cons_zero, List.set_cons_succ])
                | (refine mv_take _ (Or.inr ⟨by rfl, rfl⟩) (⟨c0, c1, c2, c3, c4⟩) ?_
                   simp only [Act.put, List.setIfInBounds_toArray, List.set_cons_zero, List.set_cons_succ])
            iterate 1
              first
                | (refine mv_free ?_ (Or.inl ⟨by rfl, ?_⟩) (⟨c0, c1, c2, c3, c4⟩) ?_
                   rotate_left 1
                   · intro u
                     go_simp
                     try simp only [d1]
                     try simp only [d2]
                     try simp only [d3]
                     try with_reducible rfl
                   simp only [Act.put, List.setIfInBounds_toArray, List.set_cons_zero, List.set_cons_succ])
                | (refine mv_free _ (Or.inr ⟨by rfl, rfl⟩) (⟨c0, c1, c2, c3, c4⟩) ?_
                   simp only [Act.put, List.setIfInBounds_toArray, List.set_cons_zero, List.set_cons_succ])
            iterate 1
              first
                | (refine mv_take ?_ (Or.inl ⟨by rfl, ?_⟩) (⟨c0, c1, c2, c3, c4⟩) ?_
                   rotate_left 1
                   · intro u hu
                     (try dsimp only at hu)
                     go_simp
                     try with_reducible rfl
                   simp only [Act.put, List.setIfInBounds_toArray, List.set_cons_zero, List.set_cons_succ])
                | (refine mv_take _ (Or.inr ⟨by rfl, rfl⟩) (⟨c0, c1, c2, c3, c4⟩) ?_
                   simp only [Act.put, List.setIfInBounds_toArray, List.set_cons_zero, List.set_cons_succ])
            refine mv_step (fun K hK => ?_)
            go_simp
            refine (UP.out _ KO.out.drew).mono ?_
            rintro e w7 ⟨rfl, ko, b7⟩
            have KO7 := Lib.hid ko
            replace KM := Lib.hid (KM.out.drew.beside b7 (by omega))
            replace KX := Lib.hid (KX.out.drew.beside b7 (by omega))
            replace BS := Lib.hid (Below.beside BS.out.drew b7 (by omega))
            clear ko b7 KO m0
            clear c0 f0 c1 f1 c2 f2 c3 f3 c4 f4
            have hh_ := KX.out
            obtain ⟨c0, f0⟩ := hh_.one 0 rfl
            obtain ⟨c1, f1⟩ := hh_.one 1 rfl
            obtain ⟨c2, f2⟩ := hh_.one 2 rfl
            obtain ⟨c3, f3⟩ := hh_.one 3 rfl
            obtain ⟨c4, f4⟩ := hh_.one 4 rfl
            clear hh_
            go_wp2_with fail
            refine hK.out _ _ _ (fun u hu => hu) (⟨c0, c1, c2, c3, c4⟩) ?_
            clear hK K
            refine mv_step (fun K hK => ?_)
            go_simp
            refine (RU.out _ KM.out).mono ?_
            rintro e w8 ⟨rfl, km, b8⟩
            have KM8 := Lib.hid km
            replace KO7 := Lib.hid (KO7.out.beside b8 (by omega))
            replace KX := Lib.hid (KX.out.beside b8 (by omega))
            replace BS := Lib.hid (Below.beside BS.out b8 (by omega))
            clear km b8 KM
            clear c0 f0 c1 f1 c2 f2 c3 f3 c4 f4
            have hh_ := KX.out
            obtain ⟨c0, f0⟩ := hh_.one 0 rfl
            obtain ⟨c1, f1⟩ := hh_.one 1 rfl
            obtain ⟨c2, f2⟩ := hh_.one 2 rfl
            obtain ⟨c3, f3⟩ := hh_.one 3 rfl
            obtain ⟨c4, f4⟩ := hh_.one 4 rfl
            clear hh_
            go_wp2_with fail
            refine hK.out _ _ _ (fun u hu => hu) (⟨c0, c1, c2, c3, c4⟩) ?_
            clear hK K
            iterate 1
              first
                | (refine mv_free ?_ (Or.inl ⟨by rfl, ?_⟩) (⟨c0, c1, c2, c3, c4⟩) ?_
                   rotate_left 1
                   · intro u
                     go_simp
                     try simp only [d1]
                     try simp only [d2]
                     try simp only [d3]
                     try with_reducible rfl
                   simp only [Act.put, List.setIfInBounds_toArray, List.set_cons_zero, List.set_cons_succ])
                | (refine mv_free _ (Or.inr ⟨by rfl, rfl⟩) (⟨c0, c1, c2, c3, c4⟩) ?_
                   simp only [Act.put, List.setIfInBounds_toArray, List.set_cons_zero, List.set_cons_succ])
            refine mv_done ?_
            clear c0 f0 c1 f1 c2 f2 c3 f3 c4 f4
            clear KX UP RU PR RP ok1 ok2 ok hcells
            have KO := KO7
            have KM := KM8
            clear KO7 KM8
            generalize SU = Z at *
            have EQ := fun u => veq (Z.X 0) (Z.X 1) (Z.X 2) u
            have SM := Lib.hid (fun u => ksame Z.P u)
            go_wp2_with fail
            refine (kcounts b _ _ _ _ _ _ KO.out).mono ?_
            rintro e w9 ⟨rfl, m, e9⟩
            replace KO := Lib.hid (show Held b (KeC Z.X Z.P g Z.tk Z.rf) w9 by rw [e9]; exact KO.out.drewN m)
            replace KM := Lib.hid (show Held bm (KeC Z.X Z.P g Z.tk Z.rf) w9 by rw [e9]; exact KM.out.drewN m)
            replace BS := Lib.hid (show Below w.heap.size w w9 by rw [e9]; exact below_drewN BS.out m)
            replace e9 := Lib.hid e9
            have y0 := KM.out.c 0 _ rfl
            have y1 := KM.out.c 1 _ rfl
            have y2 := KM.out.c 2 _ rfl
            have y3 := KM.out.c 3 _ rfl
            have y4 := KM.out.c 4 _ rfl
            have y5 := KM.out.c 5 _ rfl
            have y6 := KM.out.c 6 _ rfl
            have y7 := KM.out.c 7 _ rfl
            have y8 := KM.out.c 8 _ rfl
            have y9 := KM.out.c 9 _ rfl
            have y10 := KM.out.c 10 _ rfl
            have y11 := KM.out.c 11 _ rfl
            have y13 := KM.out.c 13 _ rfl
            have y14 := KM.out.c 14 _ rfl
            go_wp2_with fail
            refine region_moves (fun u => u.cell? ⟨bm, 0, none⟩ = some (.int .i64 (Z.X 0)) ∧ u.cell? ⟨bm, 1, none⟩ = some (.int .i64 (Z.X 1)) ∧ u.cell? ⟨bm, 2, none⟩ = some (.int .i64 (Z.X 2)) ∧ u.cell? ⟨bm, 3, none⟩ = some (.int .i64 (Z.P 0)) ∧ u.cell? ⟨bm, 4, none⟩ = some (.int .i64 (Z.P 1)) ∧ u.cell? ⟨bm, 5, none⟩ = some (.int .i64 (Z.P 2)) ∧ u.cell? ⟨bm, 6, none⟩ = some (.int .i64 (Z.P 3)) ∧ u.cell? ⟨bm, 7, none⟩ = some (.int .i64 (Z.P 4)) ∧ u.cell? ⟨bm, 8, none⟩ = some (.int .i64 (Z.P 5)) ∧ u.cell? ⟨bm, 9, none⟩ = some (.int .i64 (Z.P 6)) ∧ u.cell? ⟨bm, 10, none⟩ = some (.int .i64 (Z.P 7)) ∧ u.cell? ⟨bm, 11, none⟩ = some (.int .i64 (Z.P 8)) ∧ u.cell? ⟨bm, 13, none⟩ = some (.int .i64 Z.tk) ∧ u.cell? ⟨bm, 14, none⟩ = some (.int .i64 Z.rf)) [] [(.free, 0), (.free, 2), (.free, 3), (.free, 4), (.take, 5), (.step, 1), (.free, 6), (.free, 7), (.free, 8), (.free, 10), (.free, 11), (.free, 12), (.take, 13), (.step, 9), (.step, 14), (.free, 15), (.free, 16), (.free, 17), (.free, 18), (.free, 19), (.free, 20), (.free, 21), (.take, 22), (.free, 23), (.free, 24), (.free, 25), (.free, 26), (.free, 27), (.free, 28), (.free, 29), (.take, 30), (.free, 31), (.free, 32)] _ (by kernel_rfl) (by kernel_rfl) (by kernel_rfl) (by kernel_rfl) (by decide) rfl (fun _ _ _ _ _ h => h) ?_
            simp only [List.filterMap_cons, List.filterMap_nil, List.getElem?_toArray, List.getElem?_cons_zero, List.getElem?_cons_succ, Option.map_some]
            iterate 4
              first
                | (refine mv_free ?_ (Or.inl ⟨by rfl, ?_⟩) (⟨y0, y1, y2, y3, y4, y5, y6, y7, y8, y9, y10, y11, y13, y14⟩) ?_
                   rotate_left 1
                   · intro u
                     go_simp
                     try simp only [d1]
                     try simp only [d2]
                     try simp only [d3]
                     try with_reducible rfl
                   simp only [Act.put, List.setIfInBounds_toArray, List.set_cons_zero, List.set_cons_succ])
                | (refine mv_free _ (Or.inr ⟨by rfl, rfl⟩) (⟨y0, y1, y2, y3, y4, y5, y6, y7, y8, y9, y10, y11, y13, y14⟩) ?_
                   simp only [Act.put, List.setIfInBounds_toArray, List.set_cons_zero, List.set_cons_succ])
            iterate 1
              first
                | (refine mv_take ?_ (Or.inl ⟨by rfl, ?_⟩) (⟨y0, y1, y2, y3, y4, y5, y6, y7, y8, y9, y10, y11, y13, y14⟩) ?_
                   rotate_left 1
                   · intro u hu
                     (try dsimp only at hu)
                     go_simp
                     try with_reducible rfl
                   simp only [Act.put, List.setIfInBounds_toArray, List.set_cons_zero, List.set_cons_succ])
                | (refine mv_take _ (Or.inr ⟨by rfl, rfl⟩) (⟨y0, y1, y2, y3, y4, y5, y6, y7, y8, y9, y10, y11, y13, y14⟩) ?_
                   simp only [Act.put, List.setIfInBounds_toArray, List.set_cons_zero, List.set_cons_succ])
            refine mv_step (fun K hK => ?_)
            go_simp
            refine (kstate b _ _ _ _ _ _ KO.out.drew).mono ?_
            rintro e w10 ⟨rfl, hq⟩
            replace KO := Lib.hid (KO.out.drew.bel hq)
            replace KM := Lib.hid (KM.out.drew.bel hq)
            replace BS := Lib.hid (BS.out.drew.trans (hq.mono BS.out.size))
            clear hq y0 y1 y2 y3 y4 y5 y6 y7 y8 y9 y10 y11 y13 y14
            have y0 := KM.out.c 0 _ rfl
            have y1 := KM.out.c 1 _ rfl
            have y2 := KM.out.c 2 _ rfl
            have y3 := KM.out.c 3 _ rfl
            have y4 := KM.out.c 4 _ rfl
            have y5 := KM.out.c 5 _ rfl
            have y6 := KM.out.c 6 _ rfl
            have y7 := KM.out.c 7 _ rfl
            have y8 := KM.out.c 8 _ rfl
            have y9 := KM.out.c 9 _ rfl
            have y10 := KM.out.c 10 _ rfl
            have y11 := KM.out.c 11 _ rfl
            have y13 := KM.out.c 13 _ rfl
            have y14 := KM.out.c 14 _ rfl
            go_wp2_with fail
            refine hK.out _ _ _ (fun u hu => hu) (⟨y0, y1, y2, y3, y4, y5, y6, y7, y8, y9, y10, y11, y13, y14⟩) ?_
            clear hK K
            iterate 6
              first
                | (refine mv_free ?_ (Or.inl ⟨by rfl, ?_⟩) (⟨y0, y1, y2, y3, y4, y5, y6, y7, y8, y9, y10, y11, y13, y14⟩) ?_
                   rotate_left 1
                   · intro u
                     go_simp
                     try simp only [d1]
                     try simp only [d2]
                     try simp only [d3]
                     try with_reducible rfl
                   simp only [Act.put, List.setIfInBounds_toArray, List.set_cons_zero, List.set_cons_succ])
                | (refine mv_free _ (Or.inr ⟨by rfl, rfl⟩) (⟨y0, y1, y2, y3, y4, y5, y6, y7, y8, y9, y10, y11, y13, y14⟩) ?_
                   simp only [Act.put, List.setIfInBounds_toArray, List.set_cons_zero, List.set_cons_succ])
            iterate 1
              first
                | (refine mv_take ?_ (Or.inl ⟨by rfl, ?_⟩) (⟨y0, y1, y2, y3, y4, y5, y6, y7, y8, y9, y10, y11, y13, y14⟩) ?_
                   rotate_left 1
                   · intro u hu
                     (try dsimp only at hu)
                     go_simp
                     try with_reducible rfl
                   simp only [Act.put, List.setIfInBounds_toArray, List.set_cons_zero, List.set_cons_succ])
                | (refine mv_take _ (Or.inr ⟨by rfl, rfl⟩) (⟨y0, y1, y2, y3, y4, y5, y6, y7, y8, y9, y10, y11, y13, y14⟩) ?_
                   simp only [Act.put, List.setIfInBounds_toArray, List.set_cons_zero, List.set_cons_succ])
            refine mv_step (fun K hK => ?_)
            go_simp
            refine (kdoubt b _ _ _ _ _ _ KO.out).mono ?_
            rintro e w11 ⟨rfl, hq⟩
            replace KO := Lib.hid (KO.out.bel hq)
            replace KM := Lib.hid (KM.out.bel hq)
            replace BS := Lib.hid (BS.out.trans (hq.mono BS.out.size))
            clear hq y0 y1 y2 y3 y4 y5 y6 y7 y8 y9 y10 y11 y13 y14
            have y0 := KM.out.c 0 _ rfl
            have y1 := KM.out.c 1 _ rfl
            have y2 := KM.out.c 2 _ rfl
            have y3 := KM.out.c 3 _ rfl
            have y4 := KM.out.c 4 _ rfl
            have y5 := KM.out.c 5 _ rfl
            have y6 := KM.out.c 6 _ rfl
            have y7 := KM.out.c 7 _ rfl
            have y8 := KM.out.c 8 _ rfl
            have y9 := KM.out.c 9 _ rfl
            have y10 := KM.out.c 10 _ rfl
            have y11 := KM.out.c 11 _ rfl
            have y13 := KM.out.c 13 _ rfl
            have y14 := KM.out.c 14 _ rfl
            go_wp2_with fail
            refine hK.out _ _ _ (fun u hu => hu) (⟨y0, y1, y2, y3, y4, y5, y6, y7, y8, y9, y10, y11, y13, y14⟩) ?_
            clear hK K
            refine mv_step (fun K hK => ?_)
            go_simp
            refine (SM.out _).mono ?_
            rintro e w12 ⟨rfl, hq⟩
            replace KO := Lib.hid (KO.out.bel hq)
            replace KM := Lib.hid (KM.out.bel hq)
            replace BS := Lib.hid (BS.out.trans (hq.mono BS.out.size))
            clear hq y0 y1 y2 y3 y4 y5 y6 y7 y8 y9 y10 y11 y13 y14
            have y0 := KM.out.c 0 _ rfl
            have y1 := KM.out.c 1 _ rfl
            have y2 := KM.out.c 2 _ rfl
            have y3 := KM.out.c 3 _ rfl
            have y4 := KM.out.c 4 _ rfl
            have y5 := KM.out.c 5 _ rfl
            have y6 := KM.out.c 6 _ rfl
            have y7 := KM.out.c 7 _ rfl
            have y8 := KM.out.c 8 _ rfl
            have y9 := KM.out.c 9 _ rfl
            have y10 := KM.out.c 10 _ rfl
            have y11 := KM.out.c 11 _ rfl
            have y13 := KM.out.c 13 _ rfl
            have y14 := KM.out.c 14 _ rfl
            go_wp2_with fail
            refine hK.out _ _ _ (fun u hu => hu) (⟨y0, y1, y2, y3, y4, y5, y6, y7, y8, y9, y10, y11, y13, y14⟩) ?_
            clear hK K
            iterate 7
              first
                | (refine mv_free ?_ (Or.inl ⟨by rfl, ?_⟩) (⟨y0, y1, y2, y3, y4, y5, y6, y7, y8, y9, y10, y11, y13, y14⟩) ?_
                   rotate_left 1
                   · intro u
                     go_simp
                     try simp only [d1]
                     try simp only [d2]
                     try simp only [d3]
                     try with_reducible rfl
                   simp only [Act.put, List.setIfInBounds_toArray, List.set_cons_zero, List.set_cons_succ])
                | (refine mv_free _ (Or.inr ⟨by rfl, rfl⟩) (⟨y0, y1, y2, y3, y4, y5, y6, y7, y8, y9, y10, y11, y13, y14⟩) ?_
                   simp only [Act.put, List.setIfInBounds_toArray, List.set_cons_zero, List.set_cons_succ])
            iterate 1
              first
                | (refine mv_take ?_ (Or.inl ⟨by rfl, ?_⟩) (⟨y0, y1, y2, y3, y4, y5, y6, y7, y8, y9, y10, y11, y13, y14⟩) ?_
                   rotate_left 1
                   · intro u hu
                     (try dsimp only at hu)
                     go_simp
                     try with_reducible rfl
                   simp only [Act.put, List.setIfInBounds_toArray, List.set_cons_zero, List.set_cons_succ])
                | (refine mv_take _ (Or.inr ⟨by rfl, rfl⟩) (⟨y0, y1, y2, y3, y4, y5, y6, y7, y8, y9, y10, y11, y13, y14⟩) ?_
                   simp only [Act.put, List.setIfInBounds_toArray, List.set_cons_zero, List.set_cons_succ])
            iterate 7
              first
                | (refine mv_free ?_ (Or.inl ⟨by rfl, ?_⟩) (⟨y0, y1, y2, y3, y4, y5, y6, y7, y8, y9, y10, y11, y13, y14⟩) ?_
                   rotate_left 1
                   · intro u
                     go_simp
                     try simp only [d1]
                     try simp only [d2]
                     try simp only [d3]
                     try with_reducible rfl
                   simp only [Act.put, List.setIfInBounds_toArray, List.set_cons_zero, List.set_cons_succ])
                | (refine mv_free _ (Or.inr ⟨by rfl, rfl⟩) (⟨y0, y1, y2, y3, y4, y5, y6, y7, y8, y9, y10, y11, y13, y14⟩) ?_
                   simp only [Act.put, List.setIfInBounds_toArray, List.set_cons_zero, List.set_cons_succ])
            iterate 1
              first
                | (refine mv_take ?_ (Or.inl ⟨by rfl, ?_⟩) (⟨y0, y1, y2, y3, y4, y5, y6, y7, y8, y9, y10, y11, y13, y14⟩) ?_
                   rotate_left 1
                   · intro u hu
                     (try dsimp only at hu)
                     go_simp
                     try with_reducible rfl
                   simp only [Act.put, List.setIfInBounds_toArray, List.set_cons_zero, List.set_cons_succ])
                | (refine mv_take _ (Or.inr ⟨by rfl, rfl⟩) (⟨y0, y1, y2, y3, y4, y5, y6, y7, y8, y9, y10, y11, y13, y14⟩) ?_
                   simp only [Act.put, List.setIfInBounds_toArray, List.set_cons_zero, List.set_cons_succ])
            iterate 2
              first
                | (refine mv_free ?_ (Or.inl ⟨by rfl, ?_⟩) (⟨y0, y1, y2, y3, y4, y5, y6, y7, y8, y9, y10, y11, y13, y14⟩) ?_
                   rotate_left 1
                   · intro u
                     go_simp
                     try simp only [d1]
                     try simp only [d2]
                     try simp only [d3]
                     try with_reducible rfl
                   simp only [Act.put, List.setIfInBounds_toArray, List.set_cons_zero, List.set_cons_succ])
                | (refine mv_free _ (Or.inr ⟨by rfl, rfl⟩) (⟨y0, y1, y2, y3, y4, y5, y6, y7, y8, y9, y10, y11, y13, y14⟩) ?_
                   simp only [Act.put, List.setIfInBounds_toArray, List.set_cons_zero, List.set_cons_succ])
            refine mv_done ?_
            clear y0 y1 y2 y3 y4 y5 y6 y7 y8 y9 y10 y11 y13 y14
            go_wp2
            go_roundw
            case rel => exact ⟨k + 1, Z, by omega, by go_num, okZ, KO, KM, BS⟩
            case measure => simp [intOf]; omega
          · have okZ := ok2
            go_wp2_with fail
            refine region_moves (fun u => u.cell? ⟨xb, 0, none⟩ = some (.int .i64 (H 0)) ∧ u.cell? ⟨xb, 1, none⟩ = some (.int .i64 (H 1)) ∧ u.cell? ⟨xb, 2, none⟩ = some (.int .i64 (H 2))) [] [(.free, 0), (.free, 1), (.take, 2), (.free, 4), (.free, 5), (.take, 6), (.step, 3), (.step, 7), (.free, 8)] _ (by kernel_rfl) (by kernel_rfl) (by kernel_rfl) (by kernel_rfl) (by decide) rfl (fun _ _ _ _ _ h => h) ?_
            simp only [List.filterMap_cons, List.filterMap_nil, List.getElem?_toArray, List.getElem?_cons_zero, List.getElem?_cons_succ, Option.map_some]
            iterate 2
              first
                | (refine mv_free ?_ (Or.inl ⟨by rfl, ?_⟩) (⟨c0, c1, c2⟩) ?_
                   rotate_left 1
                   · intro u
                     go_simp
                     try simp only [d1]
                     try simp only [d2]
                     try simp only [d3]
                     try with_reducible rfl
                   simp only [Act.put, List.setIfInBounds_toArray, List.set_cons_zero, List.set_cons_succ])
                | (refine mv_free _ (Or.inr ⟨by rfl, rfl⟩) (⟨c0, c1, c2⟩) ?_
                   simp only [Act.put, List.setIfInBounds_toArray, List.set_cons_zero, List.set_cons_succ])
            iterate 1
              first
                | (refine mv_take ?_ (Or.inl ⟨by rfl, ?_⟩) (⟨c0, c1, c2⟩) ?_
                   rotate_left 1
                   · intro u hu
                     (try dsimp only at hu)
                     go_simp
                     try with_reducible rfl
                   simp only [Act.put, List.setIfInBounds_toArray, List.set_cons_zero, List.set_cons_succ])
                | (refine mv_take _ (Or.inr ⟨by rfl, rfl⟩) (⟨c0, c1, c2⟩) ?_
                   simp only [Act.put, List.setIfInBounds_toArray, List.set_cons_zero, List.set_cons_succ])
            iterate 2
              first
                | (refine mv_free ?_ (Or.inl ⟨by rfl, ?_⟩) (⟨c0, c1, c2⟩) ?_
                   rotate_left 1
                   · intro u
                     go_simp
                     try simp only [d1]
                     try simp only [d2]
                     try simp only [d3]
                     try with_reducible rfl
                   simp only [Act.put, List.setIfInBounds_toArray, List.set_cons_zero, List.set_cons_succ])
                | (refine mv_free _ (Or.inr ⟨by rfl, rfl⟩) (⟨c0, c1, c2⟩) ?_
                   simp only [Act.put, List.setIfInBounds_toArray, List.set_cons_zero, List.set_cons_succ])
            iterate 1
              first
                | (refine mv_take ?_ (Or.inl ⟨by rfl, ?_⟩) (⟨c0, c1, c2⟩) ?_
                   rotate_left 1
                   · intro u hu
                     (try dsimp only at hu)
                     go_simp
                     try with_reducible rfl
                   simp only [Act.put, List.setIfInBounds_toArray, List.set_cons_zero, List.set_cons_succ])
                | (refine mv_take _ (Or.inr ⟨by rfl, rfl⟩) (⟨c0, c1, c2⟩) ?_
                   simp only [Act.put, List.setIfInBounds_toArray, List.set_cons_zero, List.set_cons_succ])
            refine mv_step (fun K hK => ?_)
            go_simp
            refine (PR.out _ KO.out.drew).mono ?_
            rintro e w7 ⟨rfl, ko, b7⟩
            have KO7 := Lib.hid ko
            replace KM := Lib.hid (KM.out.drew.beside b7 (by omega))
            replace KX := Lib.hid (KX.out.drew.beside b7 (by omega))
            replace BS := Lib.hid (Below.beside BS.out.drew b7 (by omega))
            clear ko b7 KO m0
            clear c0 f0 c1 f1 c2 f2 c3 f3 c4 f4
            have hh_ := KX.out
            obtain ⟨c0, f0⟩ := hh_.one 0 rfl
            obtain ⟨c1, f1⟩ := hh_.one 1 rfl
            obtain ⟨c2, f2⟩ := hh_.one 2 rfl
            obtain ⟨c3, f3⟩ := hh_.one 3 rfl
            obtain ⟨c4, f4⟩ := hh_.one 4 rfl
            clear hh_
            go_wp2_with fail
            refine hK.out _ _ _ (fun u hu => hu) (⟨c0, c1, c2⟩) ?_
            clear hK K
            refine mv_step (fun K hK => ?_)
            go_simp
            refine (RP.out _ KM.out).mono ?_
            rintro e w8 ⟨rfl, km, b8⟩
            have KM8 := Lib.hid km
            replace KO7 := Lib.hid (KO7.out.beside b8 (by omega))
            replace KX := Lib.hid (KX.out.beside b8 (by omega))
            replace BS := Lib.hid (Below.beside BS.out b8 (by omega))
            clear km b8 KM
            clear c0 f0 c1 f1 c2 f2 c3 f3 c4 f4
            have hh_ := KX.out
            obtain ⟨c0, f0⟩ := hh_.one 0 rfl
            obtain ⟨c1, f1⟩ := hh_.one 1 rfl
            obtain ⟨c2, f2⟩ := hh_.one 2 rfl
            obtain ⟨c3, f3⟩ := hh_.one 3 rfl
            obtain ⟨c4, f4⟩ := hh_.one 4 rfl
            clear hh_
            go_wp2_with fail
            refine hK.out _ _ _ (fun u hu => hu) (⟨c0, c1, c2⟩) ?_
            clear hK K
            iterate 1
              first
                | (refine mv_free ?_ (Or.inl ⟨by rfl, ?_⟩) (⟨c0, c1, c2⟩) ?_
                   rotate_left 1
                   · intro u
                     go_simp
                     try simp only [d1]
                     try simp only [d2]
                     try simp only [d3]
                     try with_reducible rfl
                   simp only [Act.put, List.setIfInBounds_toArray, List.set_cons_zero, List.set_cons_succ])
                | (refine mv_free _ (Or.inr ⟨by rfl, rfl⟩) (⟨c0, c1, c2⟩) ?_
                   simp only [Act.put, List.setIfInBounds_toArray, List.set_cons_zero, List.set_cons_succ])
            refine mv_done ?_
            clear c0 f0 c1 f1 c2 f2 c3 f3 c4 f4
            clear KX UP RU PR RP ok1 ok2 ok hcells
            have KO := KO7
            have KM := KM8
            clear KO7 KM8
            generalize SP = Z at *
            have EQ := fun u => veq (Z.X 0) (Z.X 1) (Z.X 2) u
            have SM := Lib.hid (fun u => ksame Z.P u)
            go_wp2_with fail
            refine (kcounts b _ _ _ _ _ _ KO.out).mono ?_
            rintro e w9 ⟨rfl, m, e9⟩
            replace KO := Lib.hid (show Held b (KeC Z.X Z.P g Z.tk Z.rf) w9 by rw [e9]; exact KO.out.drewN m)
            replace KM := Lib.hid (show Held bm (KeC Z.X Z.P g Z.tk Z.rf) w9 by rw [e9]; exact KM.out.drewN m)
            replace BS := Lib.hid (show Below w.heap.size w w9 by rw [e9]; exact below_drewN BS.out m)
            replace e9 := Lib.hid e9
            have y0 := KM.out.c 0 _ rfl
            have y1 := KM.out.c 1 _ rfl
            have y2 := KM.out.c 2 _ rfl
            have y3 := KM.out.c 3 _ rfl
            have y4 := KM.out.c 4 _ rfl
            have y5 := KM.out.c 5 _ rfl
            have y6 := KM.out.c 6 _ rfl
            have y7 := KM.out.c 7 _ rfl
            have y8 := KM.out.c 8 _ rfl
            have y9 := KM.out.c 9 _ rfl
            have y10 := KM.out.c 10 _ rfl
            have y11 := KM.out.c 11 _ rfl
            have y13 := KM.out.c 13 _ rfl
            have y14 := KM.out.c 14 _ rfl
            go_wp2_with fail
            refine region_moves (fun u => u.cell? ⟨bm, 0, none⟩ = some (.int .i64 (Z.X 0)) ∧ u.cell? ⟨bm, 1, none⟩ = some (.int .i64 (Z.X 1)) ∧ u.cell? ⟨bm, 2, none⟩ = some (.int .i64 (Z.X 2)) ∧ u.cell? ⟨bm, 3, none⟩ = some (.int .i64 (Z.P 0)) ∧ u.cell? ⟨bm, 4, none⟩ = some (.int .i64 (Z.P 1)) ∧ u.cell? ⟨bm, 5, none⟩ = some (.int .i64 (Z.P 2)) ∧ u.cell? ⟨bm, 6, none⟩ = some (.int .i64 (Z.P 3)) ∧ u.cell? ⟨bm, 7, none⟩ = some (.int .i64 (Z.P 4)) ∧ u.cell? ⟨bm, 8, none⟩ = some (.int .i64 (Z.P 5)) ∧ u.cell? ⟨bm, 9, none⟩ = some (.int .i64 (Z.P 6)) ∧ u.cell? ⟨bm, 10, none⟩ = some (.int .i64 (Z.P 7)) ∧ u.cell? ⟨bm, 11, none⟩ = some (.int .i64 (Z.P 8)) ∧ u.cell? ⟨bm, 13, none⟩ = some (.int .i64 Z.tk) ∧ u.cell? ⟨bm, 14, none⟩ = some (.int .i64 Z.rf)) [] [(.free, 0), (.free, 2), (.free, 3), (.free, 4), (.take, 5), (.step, 1), (.free, 6), (.free, 7), (.free, 8), (.free, 10), (.free, 11), (.free, 12), (.take, 13), (.step, 9), (.step, 14), (.free, 15), (.free, 16), (.free, 17), (.free, 18), (.free, 19), (.free, 20), (.free, 21), (.take, 22), (.free, 23), (.free, 24), (.free, 25), (.free, 26), (.free, 27), (.free, 28), (.free, 29), (.take, 30), (.free, 31), (.free, 32)] _ (by kernel_rfl) (by kernel_rfl) (by kernel_rfl) (by kernel_rfl) (by decide) rfl (fun _ _ _ _ _ h => h) ?_
            simp only [List.filterMap_cons, List.filterMap_nil, List.getElem?_toArray, List.getElem?_cons_zero, List.getElem?_cons_succ, Option.map_some]
            iterate 4
              first
                | (refine mv_free ?_ (Or.inl ⟨by rfl, ?_⟩) (⟨y0, y1, y2, y3, y4, y5, y6, y7, y8, y9, y10, y11, y13, y14⟩) ?_
                   rotate_left 1
                   · intro u
                     go_simp
                     try simp only [d1]
                     try simp only [d2]
                     try simp only [d3]
                     try with_reducible rfl
                   simp only [Act.put, List.setIfInBounds_toArray, List.set_cons_zero, List.set_cons_succ])
                | (refine mv_free _ (Or.inr ⟨by rfl, rfl⟩) (⟨y0, y1, y2, y3, y4, y5, y6, y7, y8, y9, y10, y11, y13, y14⟩) ?_
                   simp only [Act.put, List.setIfInBounds_toArray, List.set_cons_zero, List.set_cons_succ])
            iterate 1
              first
                | (refine mv_take ?_ (Or.inl ⟨by rfl, ?_⟩) (⟨y0, y1, y2, y3, y4, y5, y6, y7, y8, y9, y10, y11, y13, y14⟩) ?_
                   rotate_left 1
                   · intro u hu
                     (try dsimp only at hu)
                     go_simp
                     try with_reducible rfl
                   simp only [Act.put, List.setIfInBounds_toArray, List.set_cons_zero, List.set_cons_succ])
                | (refine mv_take _ (Or.inr ⟨by rfl, rfl⟩) (⟨y0, y1, y2, y3, y4, y5, y6, y7, y8, y9, y10, y11, y13, y14⟩) ?_
                   simp only [Act.put, List.setIfInBounds_toArray, List.set_cons_zero, List.set_cons_succ])
            refine mv_step (fun K hK => ?_)
            go_simp
            refine (kstate b _ _ _ _ _ _ KO.out.drew).mono ?_
            rintro e w10 ⟨rfl, hq⟩
            replace KO := Lib.hid (KO.out.drew.bel hq)
            replace KM := Lib.hid (KM.out.drew.bel hq)
            replace BS := Lib.hid (BS.out.drew.trans (hq.mono BS.out.size))
            clear hq y0 y1 y2 y3 y4 y5 y6 y7 y8 y9 y10 y11 y13 y14
            have y0 := KM.out.c 0 _ rfl
            have y1 := KM.out.c 1 _ rfl
            have y2 := KM.out.c 2 _ rfl
            have y3 := KM.out.c 3 _ rfl
            have y4 := KM.out.c 4 _ rfl
            have y5 := KM.out.c 5 _ rfl
            have y6 := KM.out.c 6 _ rfl
            have y7 := KM.out.c 7 _ rfl
            have y8 := KM.out.c 8 _ rfl
            have y9 := KM.out.c 9 _ rfl
            have y10 := KM.out.c 10 _ rfl
            have y11 := KM.out.c 11 _ rfl
            have y13 := KM.out.c 13 _ rfl
            have y14 := KM.out.c 14 _ rfl
            go_wp2_with fail
            refine hK.out _ _ _ (fun u hu => hu) (⟨y0, y1, y2, y3, y4, y5, y6, y7, y8, y9, y10, y11, y13, y14⟩) ?_
            clear hK K
            iterate 6
              first
                | (refine mv_free ?_ (Or.inl ⟨by rfl, ?_⟩) (⟨y0, y1, y2, y3, y4, y5, y6, y7, y8, y9, y10, y11, y13, y14⟩) ?_
                   rotate_left 1
                   · intro u
                     go_simp
                     try simp only [d1]
                     try simp only [d2]
                     try simp only [d3]
                     try with_reducible rfl
                   simp only [Act.put, List.setIfInBounds_toArray, List.set_cons_zero, List.set_cons_succ])
                | (refine mv_free _ (Or.inr ⟨by rfl, rfl⟩) (⟨y0, y1, y2, y3, y4, y5, y6, y7, y8, y9, y10, y11, y13, y14⟩) ?_
                   simp only [Act.put, List.setIfInBounds_toArray, List.set_cons_zero, List.set_cons_succ])
            iterate 1
              first
                | (refine mv_take ?_ (Or.inl ⟨by rfl, ?_⟩) (⟨y0, y1, y2, y3, y4, y5, y6, y7, y8, y9, y10, y11, y13, y14⟩) ?_
                   rotate_left 1
                   · intro u hu
                     (try dsimp only at hu)
                     go_simp
                     try with_reducible rfl
                   simp only [Act.put, List.setIfInBounds_toArray, List.set_cons_zero, List.set_cons_succ])
                | (refine mv_take _ (Or.inr ⟨by rfl, rfl⟩) (⟨y0, y1, y2, y3, y4, y5, y6, y7, y8, y9, y10, y11, y13, y14⟩) ?_
                   simp only [Act.put, List.setIfInBounds_toArray, List.set_cons_zero, List.set_cons_succ])
            refine mv_step (fun K hK => ?_)
            go_simp
            refine (kdoubt b _ _ _ _ _ _ KO.out).mono ?_
            rintro e w11 ⟨rfl, hq⟩
            replace KO := Lib.hid (KO.out.bel hq)
            replace KM := Lib.hid (KM.out.bel hq)
            replace BS := Lib.hid (BS.out.trans (hq.mono BS.out.size))
            clear hq y0 y1 y2 y3 y4 y5 y6 y7 y8 y9 y10 y11 y13 y14
            have y0 := KM.out.c 0 _ rfl
            have y1 := KM.out.c 1 _ rfl
            have y2 := KM.out.c 2 _ rfl
            have y3 := KM.out.c 3 _ rfl
            have y4 := KM.out.c 4 _ rfl
            have y5 := KM.out.c 5 _ rfl
            have y6 := KM.out.c 6 _ rfl
            have y7 := KM.out.c 7 _ rfl
            have y8 := KM.out.c 8 _ rfl
            have y9 := KM.out.c 9 _ rfl
            have y10 := KM.out.c 10 _ rfl
            have y11 := KM.out.c 11 _ rfl
            have y13 := KM.out.c 13 _ rfl
            have y14 := KM.out.c 14 _ rfl
            go_wp2_with fail
            refine hK.out _ _ _ (fun u hu => hu) (⟨y0, y1, y2, y3, y4, y5, y6, y7, y8, y9, y10, y11, y13, y14⟩) ?_
            clear hK K
            refine mv_step (fun K hK => ?_)
            go_simp
            refine (SM.out _).mono ?_
            rintro e w12 ⟨rfl, hq⟩
            replace KO := Lib.hid (KO.out.bel hq)
            replace KM := Lib.hid (KM.out.bel hq)
            replace BS := Lib.hid (BS.out.trans (hq.mono BS.out.size))
            clear hq y0 y1 y2 y3 y4 y5 y6 y7 y8 y9 y10 y11 y13 y14
            have y0 := KM.out.c 0 _ rfl
            have y1 := KM.out.c 1 _ rfl
            have y2 := KM.out.c 2 _ rfl
            have y3 := KM.out.c 3 _ rfl
            have y4 := KM.out.c 4 _ rfl
            have y5 := KM.out.c 5 _ rfl
            have y6 := KM.out.c 6 _ rfl
            have y7 := KM.out.c 7 _ rfl
            have y8 := KM.out.c 8 _ rfl
            have y9 := KM.out.c 9 _ rfl
            have y10 := KM.out.c 10 _ rfl
            have y11 := KM.out.c 11 _ rfl
            have y13 := KM.out.c 13 _ rfl
            have y14 := KM.out.c 14 _ rfl
            go_wp2_with fail
            refine hK.out _ _ _ (fun u hu => hu) (⟨y0, y1, y2, y3, y4, y5, y6, y7, y8, y9, y10, y11, y13, y14⟩) ?_
            clear hK K
            iterate 7
              first
                | (refine mv_free ?_ (Or.inl ⟨by rfl, ?_⟩) (⟨y0, y1, y2, y3, y4, y5, y6, y7, y8, y9, y10, y11, y13, y14⟩) ?_
                   rotate_left 1
                   · intro u
                     go_simp
                     try simp only [d1]
                     try simp only [d2]
                     try simp only [d3]
                     try with_reducible rfl
                   simp only [Act.put, List.setIfInBounds_toArray, List.set_cons_zero, List.set_cons_succ])
                | (refine mv_free _ (Or.inr ⟨by rfl, rfl⟩) (⟨y0, y1, y2, y3, y4, y5, y6, y7, y8, y9, y10, y11, y13, y14⟩) ?_
                   simp only [Act.put, List.setIfInBounds_toArray, List.set_cons_zero, List.set_cons_succ])
            iterate 1
              first
                | (refine mv_take ?_ (Or.inl ⟨by rfl, ?_⟩) (⟨y0, y1, y2, y3, y4, y5, y6, y7, y8, y9, y10, y11, y13, y14⟩) ?_
                   rotate_left 1
                   · intro u hu
                     (try dsimp only at hu)
                     go_simp
                     try with_reducible rfl
                   simp only [Act.put, List.setIfInBounds_toArray, List.set_cons_zero, List.set_cons_succ])
                | (refine mv_take _ (Or.inr ⟨by rfl, rfl⟩) (⟨y0, y1, y2, y3, y4, y5, y6, y7, y8, y9, y10, y11, y13, y14⟩) ?_
                   simp only [Act.put, List.setIfInBounds_toArray, List.set_cons_zero, List.set_cons_succ])
            iterate 7
              first
                | (refine mv_free ?_ (Or.inl ⟨by rfl, ?_⟩) (⟨y0, y1, y2, y3, y4, y5, y6, y7, y8, y9, y10, y11, y13, y14⟩) ?_
                   rotate_left 1
                   · intro u
                     go_simp
                     try simp only [d1]
                     try simp only [d2]
                     try simp only [d3]
                     try with_reducible rfl
                   simp only [Act.put, List.setIfInBounds_toArray, List.set_cons_zero, List.set_cons_succ])
                | (refine mv_free _ (Or.inr ⟨by rfl, rfl⟩) (⟨y0, y1, y2, y3, y4, y5, y6, y7, y8, y9, y10, y11, y13, y14⟩) ?_
                   simp only [Act.put, List.setIfInBounds_toArray, List.set_cons_zero, List.set_cons_succ])
            iterate 1
              first
                | (refine mv_take ?_ (Or.inl ⟨by rfl, ?_⟩) (⟨y0, y1, y2, y3, y4, y5, y6, y7, y8, y9, y10, y11, y13, y14⟩) ?_
                   rotate_left 1
                   · intro u hu
                     (try dsimp only at hu)
                     go_simp
                     try with_reducible rfl
                   simp only [Act.put, List.setIfInBounds_toArray, List.set_cons_zero, List.set_cons_succ])
                | (refine mv_take _ (Or.inr ⟨by rfl, rfl⟩) (⟨y0, y1, y2, y3, y4, y5, y6, y7, y8, y9, y10, y11, y13, y14⟩) ?_
                   simp only [Act.put, List.setIfInBounds_toArray, List.set_cons_zero, List.set_cons_succ])
            iterate 2
              first
                | (refine mv_free ?_ (Or.inl ⟨by rfl, ?_⟩) (⟨y0, y1, y2, y3, y4, y5, y6, y7, y8, y9, y10, y11, y13, y14⟩) ?_
                   rotate_left 1
                   · intro u
                     go_simp
                     try simp only [d1]
                     try simp only [d2]
                     try simp only [d3]
                     try with_reducible rfl
                   simp only [Act.put, List.setIfInBounds_toArray, List.set_cons_zero, List.set_cons_succ])
                | (refine mv_free _ (Or.inr ⟨by rfl, rfl⟩) (⟨y0, y1, y2, y3, y4, y5, y6, y7, y8, y9, y10, y11, y13, y14⟩) ?_
                   simp only [Act.put, List.setIfInBounds_toArray, List.set_cons_zero, List.set_cons_succ])
            refine mv_done ?_
            clear y0 y1 y2 y3 y4 y5 y6 y7 y8 y9 y10 y11 y13 y14
            go_wp2
            go_roundw
            case rel => exact ⟨k + 1, Z, by omega, by go_num, okZ, KO, KM, BS⟩
            case measure => simp [intOf]; omega
        · go_wp2_with (go_at_call 54; refine (lives41 _).mono ?_; rintro e w1 ⟨rfl, hb2⟩)
          go_ret
          exact ⟨rfl, BS.out.trans (hb2.mono BS.out.size)⟩
end Go.Proofs.Ytakocggclopngaa
