/- The document's estimator: Predict and Update; walked. -/
import Derived.Test.YtakocggclopngaaKal6
import Derived.Test.YtakocggclopngaaMat10
import Derived.Test.YtakocggclopngaaClip09
namespace Go.Proofs.Ytakocggclopngaa
open Go.ChangeShapes Go.WideShapes Go.ChangeAt Go.RowKit
set_option linter.unusedVariables false
set_option linter.unusedSimpArgs false
/-- The first k of the diagonal have been told. -/
def kRd (P N : Nat → Int) (k t : Nat) : Int := if t % 4 = 0 ∧ t / 4 < k then min (smI (P t) (N (t / 4))) 274877906944 else P t
theorem kRd_zero (P N : Nat → Int) : kRd P N 0 = P := by
  funext t
  unfold kRd
  rw [if_neg (by omega)]
theorem kRd_all (P N : Nat → Int) (t : Nat) (ht : t < 9) : kRd P N 3 t = kPr P N t := by
  unfold kRd kPr
  by_cases hd : t % 4 = 0
  · rw [if_pos ⟨hd, by omega⟩, if_pos hd]
  · rw [if_neg (fun q => hd q.1), if_neg hd]
theorem kRd_set0 (X P N : Nat → Int) (g tk rf v : Int) (hv : v = min (smI (P 0) (N 0)) 274877906944) : (KeC X (kRd P N 0) g tk rf).set 3 (.int .i64 v) = KeC X (kRd P N 1) g tk rf := by subst hv; simp [KeC, kRd]
theorem kRd_at0 (P N : Nat → Int) : kRd P N 0 0 = P 0 := by simp [kRd]
theorem kRd_set1 (X P N : Nat → Int) (g tk rf v : Int) (hv : v = min (smI (P 4) (N 1)) 274877906944) : (KeC X (kRd P N 1) g tk rf).set 7 (.int .i64 v) = KeC X (kRd P N 2) g tk rf := by subst hv; simp [KeC, kRd]
theorem kRd_at1 (P N : Nat → Int) : kRd P N 1 4 = P 4 := by simp [kRd]
theorem kRd_set2 (X P N : Nat → Int) (g tk rf v : Int) (hv : v = min (smI (P 8) (N 2)) 274877906944) : (KeC X (kRd P N 2) g tk rf).set 11 (.int .i64 v) = KeC X (kRd P N 3) g tk rf := by subst hv; simp [KeC, kRd]
theorem kRd_at2 (P N : Nat → Int) : kRd P N 2 8 = P 8 := by simp [kRd]
theorem rkp_box (w : World) (N : Nat → Int) : ∃ V, V = (w.alloc (.cells #[.int .i64 (N 0), .int .i64 (N 1), .int .i64 (N 2)] 54)) ∧ Below w.heap.size w V ∧ Held w.heap.size [.int .i64 (N 0), .int .i64 (N 1), .int .i64 (N 2)] V ∧ V.heap.size = w.heap.size + 1 := by
  refine ⟨_, rfl, (by repeat (first | exact Below.refl _ _ | assumption | apply Below.drew | apply below_drewN | (refine Below.alloc ?_ (by first | exact Nat.le_refl _ | omega | (simp <;> omega)) _) | (refine Below.setCell ?_ (by first | exact Nat.le_refl _ | omega | (simp <;> omega)) _))), ?_, by simp⟩
  · have := (Held.new w [.int .i64 (N 0), .int .i64 (N 1), .int .i64 (N 2)] 54)
    simpa using this
set_option maxRecDepth 100000 in
set_option maxHeartbeats 8000000 in
theorem rkpred_no (ob : Nat) (N : Nat → Int) (w : World) (hn : kIn N 0 68719476736 = false) : Calls Try.prog 57 #[.pointer (some ⟨ob, 0, none⟩), .agg #[.int .i64 (N 0), .int .i64 (N 1), .int .i64 (N 2)]] w fun e w' => e = .returned (.int .i64 2) ∧ Below w.heap.size w w' := by
  obtain ⟨V, eV, hb0, hN, hz⟩ := rkp_box w N
  have B1 := fun u => rwithin N 0 68719476736 u
  rw [hn] at B1
  replace B1 := Lib.hid B1
  obtain ⟨d0, f0⟩ := hN.one 0 rfl
  obtain ⟨d1, f1⟩ := hN.one 1 rfl
  obtain ⟨d2, f2⟩ := hN.one 2 rfl
  replace eV := Lib.hid eV
  replace hz := Lib.hid hz
  replace hb0 := Lib.hid hb0
  clear hN hn
  go_enter Try.func57, Try.ntmps57
  go_wp2_with fail
  rw [← eV.out]
  refine (B1.out _).mono ?_
  rintro e w1 ⟨rfl, hb1⟩
  have hb2 := Lib.hid (hb0.out.trans (hb1.mono hb0.out.size))
  clear hb1
  go_wp2
  go_ret
  exact ⟨rfl, hb2.out⟩
set_option maxRecDepth 100000 in
set_option maxHeartbeats 8000000 in
theorem rkpred (ob : Nat) (X P : Nat → Int) (g tk rf : Int) (N : Nat → Int) (w : World) (k : Held ob (KeC X P g tk rf) w) (hn : kIn N 0 68719476736 = true) : Calls Try.prog 57 #[.pointer (some ⟨ob, 0, none⟩), .agg #[.int .i64 (N 0), .int .i64 (N 1), .int .i64 (N 2)]] w fun e w' => e = .returned (.int .i64 0) ∧ Held ob (KeC X (kPr P N) g tk rf) w' ∧ Beside ob w w' := by
  obtain ⟨V, eV, hb0, hN, hz⟩ := rkp_box w N
  have blt := k.lt
  have FE := Lib.hid (KeC_eq (X := X) g tk rf (fun _ _ => rfl) (kRd_all P N))
  have B1 := fun u => rwithin N 0 68719476736 u
  rw [hn] at B1
  replace B1 := Lib.hid B1
  have SM := Lib.hid (fun x y u => rsum40 x y u)
  have KO := Lib.hid (show Held ob (KeC X (kRd P N 0) g tk rf) V by rw [kRd_zero]; exact k.below hb0 blt)
  have KN := Lib.hid hN
  have BS := Lib.hid (Beside.of_below (b := ob) hb0)
  replace eV := Lib.hid eV
  replace hz := Lib.hid hz
  clear hN hn k hb0
  have hh_ := KN.out
  obtain ⟨d0, l0⟩ := hh_.one 0 rfl
  obtain ⟨d1, l1⟩ := hh_.one 1 rfl
  obtain ⟨d2, l2⟩ := hh_.one 2 rfl
  clear hh_
  go_enter Try.func57, Try.ntmps57
  go_wp2_with fail
  rw [← eV.out]
  refine (B1.out _).mono ?_
  rintro e w1 ⟨rfl, hq⟩
  replace KO := Lib.hid (KO.out.bel hq)
  replace KN := Lib.hid (KN.out.bel hq)
  replace BS := Lib.hid (BS.out.trans (.of_below hq))
  clear hq d0 d1 d2 l0 l1 l2
  go_wp2_with fail
  go_loopw [5] (fun i u => ∃ k : Nat, k ≤ 3 ∧ i = .int .i64 (k : Int) ∧ Hid (Held ob (KeC X (kRd P N k) g tk rf) u) ∧ Hid (Held w.heap.size [.int .i64 (N 0), .int .i64 (N 1), .int .i64 (N 2)] u) ∧ Hid (Beside ob w u)) (fun i _ => 3 - (intOf i).toNat)
  case atStart => exact ⟨0, by omega, rfl, KO, KN, BS⟩
  case round =>
    clear KO KN BS
    obtain ⟨k, hk, rfl, KO, KN, BS⟩ := hrel
    rcases (show k = 0 ∨ k = 1 ∨ k = 2 ∨ k = 3 by omega) with rfl | rfl | rfl | rfl
    · have kk : ((0 : Nat) : Int) = 0 := rfl
      have c0 : wr.cell? ⟨ob, 3, none⟩ = some (.int .i64 (P 0)) := (KO.out.c 3 _ rfl).trans (by rw [kRd_at0])
      have d0 := KN.out.c 0 _ rfl
      have e4 : IntKind.i64.wrap 0 = 0 := by decide
      have S1 := Lib.hid (fun u => SM.out (P 0) (N 0) u)
      have SS := fun v hv => kRd_set0 X P N g tk rf v hv
      generalize smI (P 0) (N 0) = q at S1 SS
      replace SS := Lib.hid SS
      go_wp2_with fail
      refine region_moves (fun u => u.cell? ⟨ob, 3, none⟩ = some (.int .i64 (P 0)) ∧ u.cell? ⟨w.heap.size, 0, none⟩ = some (.int .i64 (N 0)) ∧ u = wr.drew) [] [(.free, 0), (.free, 1), (.free, 2), (.free, 3), (.free, 4), (.free, 5), (.take, 6), (.free, 7), (.free, 8), (.take, 9), (.step, 10), (.free, 11)] _ (by kernel_rfl) (by kernel_rfl) (by kernel_rfl) (by kernel_rfl) (by decide) rfl (fun _ _ _ _ _ h => h) ?_
      simp only [List.filterMap_cons, List.filterMap_nil, List.getElem?_toArray, List.getElem?_cons_zero, List.getElem?_cons_succ, Option.map_some]
      iterate 6
        first
          | (refine mv_free ?_ (Or.inl ⟨by rfl, ?_⟩) (⟨c0, d0, rfl⟩) ?_
             rotate_left 1
             · intro u
               go_simp
               try simp only [d1]
               try simp only [d2]
               try simp only [d3]
               try with_reducible rfl
             simp only [Act.put, List.setIfInBounds_toArray, List.set_cons_zero, List.set_cons_succ])
          | (refine mv_free _ (Or.inr ⟨by rfl, rfl⟩) (⟨c0, d0, rfl⟩) ?_
             simp only [Act.put, List.setIfInBounds_toArray, List.set_cons_zero, List.set_cons_succ])
      iterate 1
        first
          | (refine mv_take ?_ (Or.inl ⟨by rfl, ?_⟩) (⟨c0, d0, rfl⟩) ?_
             rotate_left 1
             · intro u hu
               (try dsimp only at hu)
               go_simp
               try with_reducible rfl
             simp only [Act.put, List.setIfInBounds_toArray, List.set_cons_zero, List.set_cons_succ])
          | (refine mv_take _ (Or.inr ⟨by rfl, rfl⟩) (⟨c0, d0, rfl⟩) ?_
             simp only [Act.put, List.setIfInBounds_toArray, List.set_cons_zero, List.set_cons_succ])
      iterate 2
        first
          | (refine mv_free ?_ (Or.inl ⟨by rfl, ?_⟩) (⟨c0, d0, rfl⟩) ?_
             rotate_left 1
             · intro u
               go_simp
               try simp only [d1]
               try simp only [d2]
               try simp only [d3]
               try with_reducible rfl
             simp only [Act.put, List.setIfInBounds_toArray, List.set_cons_zero, List.set_cons_succ])
          | (refine mv_free _ (Or.inr ⟨by rfl, rfl⟩) (⟨c0, d0, rfl⟩) ?_
             simp only [Act.put, List.setIfInBounds_toArray, List.set_cons_zero, List.set_cons_succ])
      iterate 1
        first
          | (refine mv_take ?_ (Or.inl ⟨by rfl, ?_⟩) (⟨c0, d0, rfl⟩) ?_
             rotate_left 1
             · intro u hu
               (try dsimp only at hu)
               go_simp
               try with_reducible rfl
             simp only [Act.put, List.setIfInBounds_toArray, List.set_cons_zero, List.set_cons_succ])
          | (refine mv_take _ (Or.inr ⟨by rfl, rfl⟩) (⟨c0, d0, rfl⟩) ?_
             simp only [Act.put, List.setIfInBounds_toArray, List.set_cons_zero, List.set_cons_succ])
      refine mv_step (fun K hK => ?_)
      go_simp
      refine (S1.out _).mono ?_
      rintro e w' ⟨rfl, rfl⟩
      go_wp2_with fail
      refine hK.out _ _ _ (fun u hu => hu) (⟨c0, d0, rfl⟩) ?_
      clear hK K
      iterate 1
        first
          | (refine mv_free ?_ (Or.inl ⟨by rfl, ?_⟩) (⟨c0, d0, rfl⟩) ?_
             rotate_left 1
             · intro u
               go_simp
               try simp only [d1]
               try simp only [d2]
               try simp only [d3]
               try with_reducible rfl
             simp only [Act.put, List.setIfInBounds_toArray, List.set_cons_zero, List.set_cons_succ])
          | (refine mv_free _ (Or.inr ⟨by rfl, rfl⟩) (⟨c0, d0, rfl⟩) ?_
             simp only [Act.put, List.setIfInBounds_toArray, List.set_cons_zero, List.set_cons_succ])
      refine mv_done ?_
      obtain ⟨w5, ew5⟩ : ∃ w5, w5 = wr.drew := ⟨_, rfl⟩
      replace KO := Lib.hid (show Held ob (KeC X (kRd P N 0) g tk rf) w5 by rw [ew5]; exact KO.out.drew)
      replace KN := Lib.hid (show Held w.heap.size [.int .i64 (N 0), .int .i64 (N 1), .int .i64 (N 2)] w5 by rw [ew5]; exact KN.out.drew)
      replace BS := Lib.hid (show Beside ob w w5 by rw [ew5]; exact BS.out.as rfl rfl rfl rfl)
      rw [← ew5]
      replace ew5 := Lib.hid ew5
      clear c0 d0 S1
      have c1 := KO.out.c 3 _ rfl
      have f1 := KO.out.f 3 (by simp [KeC])
      rcases (show 274877906944 < q ∨ q ≤ 274877906944 by omega) with hq | hq
      · obtain ⟨w6, ew6⟩ : ∃ w6, w6 = w5.setCell ⟨ob, 3, none⟩ (.int .i64 274877906944) := ⟨_, rfl⟩
        obtain ⟨k6, b6⟩ := (((HB.start KO.out).set 3 (.int .i64 274877906944) (by simp [KeC])).is (SS.out _ (by omega))).fin (v' := w6) (by rw [ew6]) (by rw [ew6]) (by rw [ew6]) (by rw [ew6])
        replace KN := Lib.hid (KN.out.beside b6 (by omega))
        replace KO := Lib.hid k6
        replace BS := Lib.hid (BS.out.trans b6)
        clear k6 b6
        go_upto_region 5 with (fail)
        rw [← ew6]
        replace ew6 := Lib.hid ew6
        clear c1 f1
        go_wp2
        go_roundw
        case rel => exact ⟨0 + 1, by omega, by first | rfl | go_num, KO, KN, BS⟩
        case measure => simp [intOf]
      · obtain ⟨w6, ew6⟩ : ∃ w6, w6 = w5.setCell ⟨ob, 3, none⟩ (.int .i64 q) := ⟨_, rfl⟩
        obtain ⟨k6, b6⟩ := (((HB.start KO.out).set 3 (.int .i64 q) (by simp [KeC])).is (SS.out _ (by omega))).fin (v' := w6) (by rw [ew6]) (by rw [ew6]) (by rw [ew6]) (by rw [ew6])
        replace KN := Lib.hid (KN.out.beside b6 (by omega))
        replace KO := Lib.hid k6
        replace BS := Lib.hid (BS.out.trans b6)
        clear k6 b6
        go_upto_region 5 with (fail)
        rw [← ew6]
        replace ew6 := Lib.hid ew6
        clear c1 f1
        go_wp2
        go_roundw
        case rel => exact ⟨0 + 1, by omega, by first | rfl | go_num, KO, KN, BS⟩
        case measure => simp [intOf]
    · have kk : ((1 : Nat) : Int) = 1 := rfl
      have c0 : wr.cell? ⟨ob, 7, none⟩ = some (.int .i64 (P 4)) := (KO.out.c 7 _ rfl).trans (by rw [kRd_at1])
      have d0 := KN.out.c 1 _ rfl
      have e4 : IntKind.i64.wrap 4 = 4 := by decide
      have S1 := Lib.hid (fun u => SM.out (P 4) (N 1) u)
      have SS := fun v hv => kRd_set1 X P N g tk rf v hv
      generalize smI (P 4) (N 1) = q at S1 SS
      replace SS := Lib.hid SS
      go_wp2_with fail
      refine region_moves (fun u => u.cell? ⟨ob, 7, none⟩ = some (.int .i64 (P 4)) ∧ u.cell? ⟨w.heap.size, 1, none⟩ = some (.int .i64 (N 1)) ∧ u = wr.drew) [] [(.free, 0), (.free, 1), (.free, 2), (.free, 3), (.free, 4), (.free, 5), (.take, 6), (.free, 7), (.free, 8), (.take, 9), (.step, 10), (.free, 11)] _ (by kernel_rfl) (by kernel_rfl) (by kernel_rfl) (by kernel_rfl) (by decide) rfl (fun _ _ _ _ _ h => h) ?_
      simp only [List.filterMap_cons, List.filterMap_nil, List.getElem?_toArray, List.getElem?_cons_zero, List.getElem?_cons_succ, Option.map_some]
      iterate 6
        first
          | (refine mv_free ?_ (Or.inl ⟨by rfl, ?_⟩) (⟨c0, d0, rfl⟩) ?_
             rotate_left 1
             · intro u
               go_simp
               try simp only [d1]
               try simp only [d2]
               try simp only [d3]
               try with_reducible rfl
             simp only [Act.put, List.setIfInBounds_toArray, List.set_cons_zero, List.set_cons_succ])
          | (refine mv_free _ (Or.inr ⟨by rfl, rfl⟩) (⟨c0, d0, rfl⟩) ?_
             simp only [Act.put, List.setIfInBounds_toArray, List.set_cons_zero, List.set_cons_succ])
      iterate 1
        first
          | (refine mv_take ?_ (Or.inl ⟨by rfl, ?_⟩) (⟨c0, d0, rfl⟩) ?_
             rotate_left 1
             · intro u hu
               (try dsimp only at hu)
               go_simp
               try with_reducible rfl
             simp only [Act.put, List.setIfInBounds_toArray, List.set_cons_zero, List.set_cons_succ])
          | (refine mv_take _ (Or.inr ⟨by rfl, rfl⟩) (⟨c0, d0, rfl⟩) ?_
             simp only [Act.put, List.setIfInBounds_toArray, List.set_cons_zero, List.set_cons_succ])
      iterate 2
        first
          | (refine mv_free ?_ (Or.inl ⟨by rfl, ?_⟩) (⟨c0, d0, rfl⟩) ?_
             rotate_left 1
             · intro u
               go_simp
               try simp only [d1]
               try simp only [d2]
               try simp only [d3]
               try with_reducible rfl
             simp only [Act.put, List.setIfInBounds_toArray, List.set_cons_zero, List.set_cons_succ])
          | (refine mv_free _ (Or.inr ⟨by rfl, rfl⟩) (⟨c0, d0, rfl⟩) ?_
             simp only [Act.put, List.setIfInBounds_toArray, List.set_cons_zero, List.set_cons_succ])
      iterate 1
        first
          | (refine mv_take ?_ (Or.inl ⟨by rfl, ?_⟩) (⟨c0, d0, rfl⟩) ?_
             rotate_left 1
             · intro u hu
               (try dsimp only at hu)
               go_simp
               try with_reducible rfl
             simp only [Act.put, List.setIfInBounds_toArray, List.set_cons_zero, List.set_cons_succ])
          | (refine mv_take _ (Or.inr ⟨by rfl, rfl⟩) (⟨c0, d0, rfl⟩) ?_
             simp only [Act.put, List.setIfInBounds_toArray, List.set_cons_zero, List.set_cons_succ])
      refine mv_step (fun K hK => ?_)
      go_simp
      refine (S1.out _).mono ?_
      rintro e w' ⟨rfl, rfl⟩
      go_wp2_with fail
      refine hK.out _ _ _ (fun u hu => hu) (⟨c0, d0, rfl⟩) ?_
      clear hK K
      iterate 1
        first
          | (refine mv_free ?_ (Or.inl ⟨by rfl, ?_⟩) (⟨c0, d0, rfl⟩) ?_
             rotate_left 1
             · intro u
               go_simp
               try simp only [d1]
               try simp only [d2]
               try simp only [d3]
               try with_reducible rfl
             simp only [Act.put, List.setIfInBounds_toArray, List.set_cons_zero, List.set_cons_succ])
          | (refine mv_free _ (Or.inr ⟨by rfl, rfl⟩) (⟨c0, d0, rfl⟩) ?_
             simp only [Act.put, List.setIfInBounds_toArray, List.set_cons_zero, List.set_cons_succ])
      refine mv_done ?_
      obtain ⟨w5, ew5⟩ : ∃ w5, w5 = wr.drew := ⟨_, rfl⟩
      replace KO := Lib.hid (show Held ob (KeC X (kRd P N 1) g tk rf) w5 by rw [ew5]; exact KO.out.drew)
      replace KN := Lib.hid (show Held w.heap.size [.int .i64 (N 0), .int .i64 (N 1), .int .i64 (N 2)] w5 by rw [ew5]; exact KN.out.drew)
      replace BS := Lib.hid (show Beside ob w w5 by rw [ew5]; exact BS.out.as rfl rfl rfl rfl)
      rw [← ew5]
      replace ew5 := Lib.hid ew5
      clear c0 d0 S1
      have c1 := KO.out.c 7 _ rfl
      have f1 := KO.out.f 7 (by simp [KeC])
      rcases (show 274877906944 < q ∨ q ≤ 274877906944 by omega) with hq | hq
      · obtain ⟨w6, ew6⟩ : ∃ w6, w6 = w5.setCell ⟨ob, 7, none⟩ (.int .i64 274877906944) := ⟨_, rfl⟩
        obtain ⟨k6, b6⟩ := (((HB.start KO.out).set 7 (.int .i64 274877906944) (by simp [KeC])).is (SS.out _ (by omega))).fin (v' := w6) (by rw [ew6]) (by rw [ew6]) (by rw [ew6]) (by rw [ew6])
        replace KN := Lib.hid (KN.out.beside b6 (by omega))
        replace KO := Lib.hid k6
        replace BS := Lib.hid (BS.out.trans b6)
        clear k6 b6
        go_upto_region 5 with (fail)
        rw [← ew6]
        replace ew6 := Lib.hid ew6
        clear c1 f1
        go_wp2
        go_roundw
        case rel => exact ⟨1 + 1, by omega, by first | rfl | go_num, KO, KN, BS⟩
        case measure => simp [intOf]
      · obtain ⟨w6, ew6⟩ : ∃ w6, w6 = w5.setCell ⟨ob, 7, none⟩ (.int .i64 q) := ⟨_, rfl⟩
        obtain ⟨k6, b6⟩ := (((HB.start KO.out).set 7 (.int .i64 q) (by simp [KeC])).is (SS.out _ (by omega))).fin (v' := w6) (by rw [ew6]) (by rw [ew6]) (by rw [ew6]) (by rw [ew6])
        replace KN := Lib.hid (KN.out.beside b6 (by omega))
        replace KO := Lib.hid k6
        replace BS := Lib.hid (BS.out.trans b6)
        clear k6 b6
        go_upto_region 5 with (fail)
        rw [← ew6]
        replace ew6 := Lib.hid ew6
        clear c1 f1
        go_wp2
        go_roundw
        case rel => exact ⟨1 + 1, by omega, by first | rfl | go_num, KO, KN, BS⟩
        case measure => simp [intOf]
    · have kk : ((2 : Nat) : Int) = 2 := rfl
      have c0 : wr.cell? ⟨ob, 11, none⟩ = some (.int .i64 (P 8)) := (KO.out.c 11 _ rfl).trans (by rw [kRd_at2])
      have d0 := KN.out.c 2 _ rfl
      have e4 : IntKind.i64.wrap 8 = 8 := by decide
      have S1 := Lib.hid (fun u => SM.out (P 8) (N 2) u)
      have SS := fun v hv => kRd_set2 X P N g tk rf v hv
      generalize smI (P 8) (N 2) = q at S1 SS
      replace SS := Lib.hid SS
      go_wp2_with fail
      refine region_moves (fun u => u.cell? ⟨ob, 11, none⟩ = some (.int .i64 (P 8)) ∧ u.cell? ⟨w.heap.size, 2, none⟩ = some (.int .i64 (N 2)) ∧ u = wr.drew) [] [(.free, 0), (.free, 1), (.free, 2), (.free, 3), (.free, 4), (.free, 5), (.take, 6), (.free, 7), (.free, 8), (.take, 9), (.step, 10), (.free, 11)] _ (by kernel_rfl) (by kernel_rfl) (by kernel_rfl) (by kernel_rfl) (by decide) rfl (fun _ _ _ _ _ h => h) ?_
      simp only [List.filterMap_cons, List.filterMap_nil, List.getElem?_toArray, List.getElem?_cons_zero, List.getElem?_cons_succ, Option.map_some]
      iterate 6
        first
          | (refine mv_free ?_ (Or.inl ⟨by rfl, ?_⟩) (⟨c0, d0, rfl⟩) ?_
             rotate_left 1
             · intro u
               go_simp
               try simp only [d1]
               try simp only [d2]
               try simp only [d3]
               try with_reducible rfl
             simp only [Act.put, List.setIfInBounds_toArray, List.set_cons_zero, List.set_cons_succ])
          | (refine mv_free _ (Or.inr ⟨by rfl, rfl⟩) (⟨c0, d0, rfl⟩) ?_
             simp only [Act.put, List.setIfInBounds_toArray, List.set_cons_zero, List.set_cons_succ])
      iterate 1
        first
          | (refine mv_take ?_ (Or.inl ⟨by rfl, ?_⟩) (⟨c0, d0, rfl⟩) ?_
             rotate_left 1
             · intro u hu
               (try dsimp only at hu)
               go_simp
               try with_reducible rfl
             simp only [Act.put, List.setIfInBounds_toArray, List.set_cons_zero, List.set_cons_succ])
          | (refine mv_take _ (Or.inr ⟨by rfl, rfl⟩) (⟨c0, d0, rfl⟩) ?_
             simp only [Act.put, List.setIfInBounds_toArray, List.set_cons_zero, List.set_cons_succ])
      iterate 2
        first
          | (refine mv_free ?_ (Or.inl ⟨by rfl, ?_⟩) (⟨c0, d0, rfl⟩) ?_
             rotate_left 1
             · intro u
               go_simp
               try simp only [d1]
               try simp only [d2]
               try simp only [d3]
               try with_reducible rfl
             simp only [Act.put, List.setIfInBounds_toArray, List.set_cons_zero, List.set_cons_succ])
          | (refine mv_free _ (Or.inr ⟨by rfl, rfl⟩) (⟨c0, d0, rfl⟩) ?_
             simp only [Act.put, List.setIfInBounds_toArray, List.set_cons_zero, List.set_cons_succ])
      iterate 1
        first
          | (refine mv_take ?_ (Or.inl ⟨by rfl, ?_⟩) (⟨c0, d0, rfl⟩) ?_
             rotate_left 1
             · intro u hu
               (try dsimp only at hu)
               go_simp
               try with_reducible rfl
             simp only [Act.put, List.setIfInBounds_toArray, List.set_cons_zero, List.set_cons_succ])
          | (refine mv_take _ (Or.inr ⟨by rfl, rfl⟩) (⟨c0, d0, rfl⟩) ?_
             simp only [Act.put, List.setIfInBounds_toArray, List.set_cons_zero, List.set_cons_succ])
      refine mv_step (fun K hK => ?_)
      go_simp
      refine (S1.out _).mono ?_
      rintro e w' ⟨rfl, rfl⟩
      go_wp2_with fail
      refine hK.out _ _ _ (fun u hu => hu) (⟨c0, d0, rfl⟩) ?_
      clear hK K
      iterate 1
        first
          | (refine mv_free ?_ (Or.inl ⟨by rfl, ?_⟩) (⟨c0, d0, rfl⟩) ?_
             rotate_left 1
             · intro u
               go_simp
               try simp only [d1]
               try simp only [d2]
               try simp only [d3]
               try with_reducible rfl
             simp only [Act.put, List.setIfInBounds_toArray, List.set_cons_zero, List.set_cons_succ])
          | (refine mv_free _ (Or.inr ⟨by rfl, rfl⟩) (⟨c0, d0, rfl⟩) ?_
             simp only [Act.put, List.setIfInBounds_toArray, List.set_cons_zero, List.set_cons_succ])
      refine mv_done ?_
      obtain ⟨w5, ew5⟩ : ∃ w5, w5 = wr.drew := ⟨_, rfl⟩
      replace KO := Lib.hid (show Held ob (KeC X (kRd P N 2) g tk rf) w5 by rw [ew5]; exact KO.out.drew)
      replace KN := Lib.hid (show Held w.heap.size [.int .i64 (N 0), .int .i64 (N 1), .int .i64 (N 2)] w5 by rw [ew5]; exact KN.out.drew)
      replace BS := Lib.hid (show Beside ob w w5 by rw [ew5]; exact BS.out.as rfl rfl rfl rfl)
      rw [← ew5]
      replace ew5 := Lib.hid ew5
      clear c0 d0 S1
      have c1 := KO.out.c 11 _ rfl
      have f1 := KO.out.f 11 (by simp [KeC])
      rcases (show 274877906944 < q ∨ q ≤ 274877906944 by omega) with hq | hq
      · obtain ⟨w6, ew6⟩ : ∃ w6, w6 = w5.setCell ⟨ob, 11, none⟩ (.int .i64 274877906944) := ⟨_, rfl⟩
        obtain ⟨k6, b6⟩ := (((HB.start KO.out).set 11 (.int .i64 274877906944) (by simp [KeC])).is (SS.out _ (by omega))).fin (v' := w6) (by rw [ew6]) (by rw [ew6]) (by rw [ew6]) (by rw [ew6])
        replace KN := Lib.hid (KN.out.beside b6 (by omega))
        replace KO := Lib.hid k6
        replace BS := Lib.hid (BS.out.trans b6)
        clear k6 b6
        go_upto_region 5 with (fail)
        rw [← ew6]
        replace ew6 := Lib.hid ew6
        clear c1 f1
        go_wp2
        go_roundw
        case rel => exact ⟨2 + 1, by omega, by first | rfl | go_num, KO, KN, BS⟩
        case measure => simp [intOf]
      · obtain ⟨w6, ew6⟩ : ∃ w6, w6 = w5.setCell ⟨ob, 11, none⟩ (.int .i64 q) := ⟨_, rfl⟩
        obtain ⟨k6, b6⟩ := (((HB.start KO.out).set 11 (.int .i64 q) (by simp [KeC])).is (SS.out _ (by omega))).fin (v' := w6) (by rw [ew6]) (by rw [ew6]) (by rw [ew6]) (by rw [ew6])
        replace KN := Lib.hid (KN.out.beside b6 (by omega))
        replace KO := Lib.hid k6
        replace BS := Lib.hid (BS.out.trans b6)
        clear k6 b6
        go_upto_region 5 with (fail)
        rw [← ew6]
        replace ew6 := Lib.hid ew6
        clear c1 f1
        go_wp2
        go_roundw
        case rel => exact ⟨2 + 1, by omega, by first | rfl | go_num, KO, KN, BS⟩
        case measure => simp [intOf]
    · have kk : ((3 : Nat) : Int) = 3 := rfl
      go_wp2
      go_ret
      exact ⟨rfl, FE.out ▸ KO.out, BS.out⟩
/-- The first k are told. -/
def kXq (X Y : Nat → Int) (k t : Nat) : Int := if t < k then Y t else X t
theorem kXq_zero (X Y : Nat → Int) : kXq X Y 0 = X := by
  funext t
  unfold kXq
  rw [if_neg (by omega)]
theorem kXq_all (X Y P : Nat → Int) (g tk rf : Int) : KeC (kXq X Y 3) P g tk rf = KeC Y P g tk rf := by simp [KeC, kXq]
theorem kXq_set0 (X Y P : Nat → Int) (g tk rf : Int) : (KeC (kXq X Y 0) P g tk rf).set 0 (.int .i64 (Y 0)) = KeC (kXq X Y 1) P g tk rf := by simp [KeC, kXq]
theorem kXq_at0 (X Y : Nat → Int) : kXq X Y 0 0 = X 0 := by simp [kXq]
theorem kXq_set1 (X Y P : Nat → Int) (g tk rf : Int) : (KeC (kXq X Y 1) P g tk rf).set 1 (.int .i64 (Y 1)) = KeC (kXq X Y 2) P g tk rf := by simp [KeC, kXq]
theorem kXq_at1 (X Y : Nat → Int) : kXq X Y 1 1 = X 1 := by simp [kXq]
theorem kXq_set2 (X Y P : Nat → Int) (g tk rf : Int) : (KeC (kXq X Y 2) P g tk rf).set 2 (.int .i64 (Y 2)) = KeC (kXq X Y 3) P g tk rf := by simp [KeC, kXq]
theorem kXq_at2 (X Y : Nat → Int) : kXq X Y 2 2 = X 2 := by simp [kXq]
theorem c09_36 (n : Int) : c09 n (-68719476736) 68719476736 = c36 n := rfl
theorem out_bd (A B : Nat → Int) (t : Nat) : -1099511627775 ≤ out A B t ∧ out A B t ≤ 1099511627775 := prd_bd _ _
theorem kq_set0 (M : Nat → Int) (a : Int) : ((mC M 0).set 0 (.int .i64 a)).set 0 (.int .i64 (M 0)) = mC M 1 := by rw [List.set_set, mC_set M 0 (by omega)]
theorem kq_set1 (M : Nat → Int) (a : Int) : ((mC M 1).set 1 (.int .i64 a)).set 1 (.int .i64 (M 1)) = mC M 2 := by rw [List.set_set, mC_set M 1 (by omega)]
theorem kq_set2 (M : Nat → Int) (a : Int) : ((mC M 2).set 2 (.int .i64 a)).set 2 (.int .i64 (M 2)) = mC M 3 := by rw [List.set_set, mC_set M 2 (by omega)]
theorem kq_set3 (M : Nat → Int) (a : Int) : ((mC M 3).set 3 (.int .i64 a)).set 3 (.int .i64 (M 3)) = mC M 4 := by rw [List.set_set, mC_set M 3 (by omega)]
theorem kq_set4 (M : Nat → Int) (a : Int) : ((mC M 4).set 4 (.int .i64 a)).set 4 (.int .i64 (M 4)) = mC M 5 := by rw [List.set_set, mC_set M 4 (by omega)]
theorem kq_set5 (M : Nat → Int) (a : Int) : ((mC M 5).set 5 (.int .i64 a)).set 5 (.int .i64 (M 5)) = mC M 6 := by rw [List.set_set, mC_set M 5 (by omega)]
theorem kq_set6 (M : Nat → Int) (a : Int) : ((mC M 6).set 6 (.int .i64 a)).set 6 (.int .i64 (M 6)) = mC M 7 := by rw [List.set_set, mC_set M 6 (by omega)]
theorem kq_set7 (M : Nat → Int) (a : Int) : ((mC M 7).set 7 (.int .i64 a)).set 7 (.int .i64 (M 7)) = mC M 8 := by rw [List.set_set, mC_set M 7 (by omega)]
theorem kq_set8 (M : Nat → Int) (a : Int) : ((mC M 8).set 8 (.int .i64 a)).set 8 (.int .i64 (M 8)) = mC M 9 := by rw [List.set_set, mC_set M 8 (by omega)]
theorem kD_mir (D : Nat → Int) (X : Nat → Int) (g tk rf : Int) : KeC X (mir D) g tk rf = [.int .i64 (X 0), .int .i64 (X 1), .int .i64 (X 2), .int .i64 (D 0), .int .i64 (D 1), .int .i64 (D 2), .int .i64 (D 1), .int .i64 (D 4), .int .i64 (D 5), .int .i64 (D 2), .int .i64 (D 5), .int .i64 (D 8), .int .i64 g, .int .i64 tk, .int .i64 rf] := rfl
theorem rku_box (w : World) (H : Nat → Int) : ∃ V, V = (w.alloc (.cells #[.int .i64 (H 0), .int .i64 (H 1), .int .i64 (H 2)] 54)) ∧ Below w.heap.size w V ∧ Held w.heap.size [.int .i64 (H 0), .int .i64 (H 1), .int .i64 (H 2)] V ∧ V.heap.size = w.heap.size + 1 := by
  refine ⟨_, rfl, (by repeat (first | exact Below.refl _ _ | assumption | apply Below.drew | apply below_drewN | (refine Below.alloc ?_ (by first | exact Nat.le_refl _ | omega | (simp <;> omega)) _) | (refine Below.setCell ?_ (by first | exact Nat.le_refl _ | omega | (simp <;> omega)) _))), ?_, by simp⟩
  · have := (Held.new w [.int .i64 (H 0), .int .i64 (H 1), .int .i64 (H 2)] 54)
    simpa using this
set_option maxRecDepth 100000 in
set_option maxHeartbeats 8000000 in
theorem rku_r0 (ob : Nat) (H : Nat → Int) (z n : Int) (h0 : n < 1) (w : World) : Calls Try.prog 58 #[.pointer (some ⟨ob, 0, none⟩), .agg #[.int .i64 (H 0), .int .i64 (H 1), .int .i64 (H 2)], .int .i64 z, .int .i64 n] w fun e w' => e = .returned (.int .i64 2) ∧ Below w.heap.size w w' := by
  obtain ⟨V, eV, hb0, hH, hz⟩ := rku_box w H
  have KH := Lib.hid hH
  have hh_ := KH.out
  obtain ⟨d0, l0⟩ := hh_.one 0 rfl
  obtain ⟨d1, l1⟩ := hh_.one 1 rfl
  obtain ⟨d2, l2⟩ := hh_.one 2 rfl
  clear hh_
  replace eV := Lib.hid eV
  replace hz := Lib.hid hz
  have BS := Lib.hid hb0
  clear hH hb0
  go_enter Try.func58, Try.ntmps58
  go_wp2_with fail
  rw [← eV.out]
  go_wp2
  go_ret
  exact ⟨rfl, BS.out⟩
set_option maxRecDepth 100000 in
set_option maxHeartbeats 8000000 in
theorem rku_r1 (ob : Nat) (H : Nat → Int) (z n : Int) (h0 : 1 ≤ n) (h1 : 68719476736 < n) (w : World) : Calls Try.prog 58 #[.pointer (some ⟨ob, 0, none⟩), .agg #[.int .i64 (H 0), .int .i64 (H 1), .int .i64 (H 2)], .int .i64 z, .int .i64 n] w fun e w' => e = .returned (.int .i64 2) ∧ Below w.heap.size w w' := by
  obtain ⟨V, eV, hb0, hH, hz⟩ := rku_box w H
  have KH := Lib.hid hH
  have hh_ := KH.out
  obtain ⟨d0, l0⟩ := hh_.one 0 rfl
  obtain ⟨d1, l1⟩ := hh_.one 1 rfl
  obtain ⟨d2, l2⟩ := hh_.one 2 rfl
  clear hh_
  replace eV := Lib.hid eV
  replace hz := Lib.hid hz
  have BS := Lib.hid hb0
  clear hH hb0
  go_enter Try.func58, Try.ntmps58
  go_wp2_with fail
  rw [← eV.out]
  go_wp2
  go_ret
  exact ⟨rfl, BS.out⟩
set_option maxRecDepth 100000 in
set_option maxHeartbeats 8000000 in
theorem rku_r2 (ob : Nat) (H : Nat → Int) (z n : Int) (h0 : 1 ≤ n) (h1 : n ≤ 68719476736) (h2 : kIn H (-16777216) 16777216 = false) (w : World) : Calls Try.prog 58 #[.pointer (some ⟨ob, 0, none⟩), .agg #[.int .i64 (H 0), .int .i64 (H 1), .int .i64 (H 2)], .int .i64 z, .int .i64 n] w fun e w' => e = .returned (.int .i64 2) ∧ Below w.heap.size w w' := by
  obtain ⟨V, eV, hb0, hH, hz⟩ := rku_box w H
  have KH := Lib.hid hH
  have hh_ := KH.out
  obtain ⟨d0, l0⟩ := hh_.one 0 rfl
  obtain ⟨d1, l1⟩ := hh_.one 1 rfl
  obtain ⟨d2, l2⟩ := hh_.one 2 rfl
  clear hh_
  replace eV := Lib.hid eV
  replace hz := Lib.hid hz
  have BS := Lib.hid hb0
  clear hH hb0
  have B1 := fun u => rwithin H (-16777216) 16777216 u
  rw [h2] at B1
  replace B1 := Lib.hid B1
  clear h2
  go_enter Try.func58, Try.ntmps58
  go_wp2_with fail
  rw [← eV.out]
  go_wp2_with fail
  refine (B1.out _).mono ?_
  rintro e w1 ⟨rfl, hq⟩
  replace BS := Lib.hid (BS.out.trans (hq.mono BS.out.size))
  clear hq
  go_wp2
  go_ret
  exact ⟨rfl, BS.out⟩
set_option maxRecDepth 100000 in
set_option maxHeartbeats 8000000 in
theorem rku_r3 (ob : Nat) (H : Nat → Int) (z n : Int) (h0 : 1 ≤ n) (h1 : n ≤ 68719476736) (h2 : kIn H (-16777216) 16777216 = true) (h3 : z < -68719476736) (w : World) : Calls Try.prog 58 #[.pointer (some ⟨ob, 0, none⟩), .agg #[.int .i64 (H 0), .int .i64 (H 1), .int .i64 (H 2)], .int .i64 z, .int .i64 n] w fun e w' => e = .returned (.int .i64 2) ∧ Below w.heap.size w w' := by
  obtain ⟨V, eV, hb0, hH, hz⟩ := rku_box w H
  have KH := Lib.hid hH
  have hh_ := KH.out
  obtain ⟨d0, l0⟩ := hh_.one 0 rfl
  obtain ⟨d1, l1⟩ := hh_.one 1 rfl
  obtain ⟨d2, l2⟩ := hh_.one 2 rfl
  clear hh_
  replace eV := Lib.hid eV
  replace hz := Lib.hid hz
  have BS := Lib.hid hb0
  clear hH hb0
  have B1 := fun u => rwithin H (-16777216) 16777216 u
  rw [h2] at B1
  replace B1 := Lib.hid B1
  clear h2
  go_enter Try.func58, Try.ntmps58
  go_wp2_with fail
  rw [← eV.out]
  go_wp2_with fail
  refine (B1.out _).mono ?_
  rintro e w1 ⟨rfl, hq⟩
  replace BS := Lib.hid (BS.out.trans (hq.mono BS.out.size))
  clear hq
  go_wp2
  go_ret
  exact ⟨rfl, BS.out⟩
set_option maxRecDepth 100000 in
set_option maxHeartbeats 8000000 in
theorem rku_r4 (ob : Nat) (H : Nat → Int) (z n : Int) (h0 : 1 ≤ n) (h1 : n ≤ 68719476736) (h2 : kIn H (-16777216) 16777216 = true) (h3 : -68719476736 ≤ z) (h4 : 68719476736 < z) (w : World) : Calls Try.prog 58 #[.pointer (some ⟨ob, 0, none⟩), .agg #[.int .i64 (H 0), .int .i64 (H 1), .int .i64 (H 2)], .int .i64 z, .int .i64 n] w fun e w' => e = .returned (.int .i64 2) ∧ Below w.heap.size w w' := by
  obtain ⟨V, eV, hb0, hH, hz⟩ := rku_box w H
  have KH := Lib.hid hH
  have hh_ := KH.out
  obtain ⟨d0, l0⟩ := hh_.one 0 rfl
  obtain ⟨d1, l1⟩ := hh_.one 1 rfl
  obtain ⟨d2, l2⟩ := hh_.one 2 rfl
  clear hh_
  replace eV := Lib.hid eV
  replace hz := Lib.hid hz
  have BS := Lib.hid hb0
  clear hH hb0
  have B1 := fun u => rwithin H (-16777216) 16777216 u
  rw [h2] at B1
  replace B1 := Lib.hid B1
  clear h2
  go_enter Try.func58, Try.ntmps58
  go_wp2_with fail
  rw [← eV.out]
  go_wp2_with fail
  refine (B1.out _).mono ?_
  rintro e w1 ⟨rfl, hq⟩
  replace BS := Lib.hid (BS.out.trans (hq.mono BS.out.size))
  clear hq
  go_wp2
  go_ret
  exact ⟨rfl, BS.out⟩
set_option maxRecDepth 100000 in
set_option maxHeartbeats 8000000 in
theorem rku_high0 (ob : Nat) (X P : Nat → Int) (g tk rf : Int) (H : Nat → Int) (z n : Int) (w : World) (k : Held ob (KeC X P g tk rf) w) (h0 : 1 ≤ n) (h1 : n ≤ 68719476736) (h2 : kIn H (-16777216) 16777216 = true) (h3 : -68719476736 ≤ z) (h4 : z ≤ 68719476736) (t1 : 0 ≤ tk ∧ tk < 1000000) (t2 : 0 ≤ rf ∧ rf < 1000000) (g1 : 1 ≤ g ∧ g ≤ 68719476736) (hg : g < kOff X H z) : Calls Try.prog 58 #[.pointer (some ⟨ob, 0, none⟩), .agg #[.int .i64 (H 0), .int .i64 (H 1), .int .i64 (H 2)], .int .i64 z, .int .i64 n] w fun e w' => e = .returned (.int .i64 9) ∧ Held ob (KeC X P g tk (rf + 1)) w' ∧ Beside ob w w' := by
  have blt := k.lt
  have db := dtI_bd H X
  have eo : kOff X H z = z - dtI H X := rfl
  have DT := fun u => rdot H X u
  obtain ⟨V, eV, hb0, hH, hz⟩ := rku_box w H
  have KH := Lib.hid hH
  have KO := Lib.hid (k.below hb0 blt)
  have BS := Lib.hid (Beside.of_below (b := ob) hb0)
  have B1 := fun u => rwithin H (-16777216) 16777216 u
  rw [h2] at B1
  replace B1 := Lib.hid B1
  replace eV := Lib.hid eV
  have HZ := Lib.hid hz
  clear hH hb0 h2 hz
  generalize kOff X H z = off at *
  generalize dtI H X = dx at *
  replace DT := Lib.hid DT
  have ew : IntKind.i64.wrap (z - dx) = off := by rw [eo]; exact IntWalk.i64_in _ ⟨by omega, by omega⟩
  have en : IntKind.i64.wrap (-off) = -off := IntWalk.i64_in _ ⟨by omega, by omega⟩
  clear db
  replace eo := Lib.hid eo
  clear k
  have hh_ := KH.out
  obtain ⟨d0, l0⟩ := hh_.one 0 rfl
  obtain ⟨d1, l1⟩ := hh_.one 1 rfl
  obtain ⟨d2, l2⟩ := hh_.one 2 rfl
  clear hh_
  go_enter Try.func58, Try.ntmps58
  go_wp2_with fail
  rw [← eV.out]
  go_wp2_with fail
  refine (B1.out _).mono ?_
  rintro e w1 ⟨rfl, hq⟩
  replace KO := Lib.hid (KO.out.bel hq)
  replace KH := Lib.hid (KH.out.bel hq)
  replace BS := Lib.hid (BS.out.trans (.of_below hq))
  clear hq d0 l0 d1 l1 d2 l2
  have hh_ := KH.out
  obtain ⟨d0, l0⟩ := hh_.one 0 rfl
  obtain ⟨d1, l1⟩ := hh_.one 1 rfl
  obtain ⟨d2, l2⟩ := hh_.one 2 rfl
  clear hh_
  have c0 := KO.out.c 0 _ rfl
  have c1 := KO.out.c 1 _ rfl
  have c2 := KO.out.c 2 _ rfl
  go_wp2_with fail
  refine region_moves (fun u => u.cell? ⟨ob, 0, none⟩ = some (.int .i64 (X 0)) ∧ u.cell? ⟨ob, 1, none⟩ = some (.int .i64 (X 1)) ∧ u.cell? ⟨ob, 2, none⟩ = some (.int .i64 (X 2)) ∧ u.cell? ⟨w.heap.size, 0, none⟩ = some (.int .i64 (H 0)) ∧ u.cell? ⟨w.heap.size, 1, none⟩ = some (.int .i64 (H 1)) ∧ u.cell? ⟨w.heap.size, 2, none⟩ = some (.int .i64 (H 2))) [] [(.free, 0), (.take, 1), (.free, 2), (.free, 3), (.free, 4), (.take, 5), (.step, 6), (.free, 7), (.free, 8)] _ (by kernel_rfl) (by kernel_rfl) (by kernel_rfl) (by kernel_rfl) (by decide) rfl (fun _ _ _ _ _ h => h) ?_
  simp only [List.filterMap_cons, List.filterMap_nil, List.getElem?_toArray, List.getElem?_cons_zero, List.getElem?_cons_succ, Option.map_some]
  iterate 1
    first
      | (refine mv_free ?_ (Or.inl ⟨by rfl, ?_⟩) (⟨c0, c1, c2, d0, d1, d2⟩) ?_
         rotate_left 1
         · intro u
           go_simp
           try simp only [d1]
           try simp only [d2]
           try simp only [d3]
           try with_reducible rfl
         simp only [Act.put, List.setIfInBounds_toArray, List.set_cons_zero, List.set_cons_succ])
      | (refine mv_free _ (Or.inr ⟨by rfl, rfl⟩) (⟨c0, c1, c2, d0, d1, d2⟩) ?_
         simp only [Act.put, List.setIfInBounds_toArray, List.set_cons_zero, List.set_cons_succ])
  iterate 1
    first
      | (refine mv_take ?_ (Or.inl ⟨by rfl, ?_⟩) (⟨c0, c1, c2, d0, d1, d2⟩) ?_
         rotate_left 1
         · intro u hu
           (try dsimp only at hu)
           go_simp
           try with_reducible rfl
         simp only [Act.put, List.setIfInBounds_toArray, List.set_cons_zero, List.set_cons_succ])
      | (refine mv_take _ (Or.inr ⟨by rfl, rfl⟩) (⟨c0, c1, c2, d0, d1, d2⟩) ?_
         simp only [Act.put, List.setIfInBounds_toArray, List.set_cons_zero, List.set_cons_succ])
  iterate 3
    first
      | (refine mv_free ?_ (Or.inl ⟨by rfl, ?_⟩) (⟨c0, c1, c2, d0, d1, d2⟩) ?_
         rotate_left 1
         · intro u
           go_simp
           try simp only [d1]
           try simp only [d2]
           try simp only [d3]
           try with_reducible rfl
         simp only [Act.put, List.setIfInBounds_toArray, List.set_cons_zero, List.set_cons_succ])
      | (refine mv_free _ (Or.inr ⟨by rfl, rfl⟩) (⟨c0, c1, c2, d0, d1, d2⟩) ?_
         simp only [Act.put, List.setIfInBounds_toArray, List.set_cons_zero, List.set_cons_succ])
  iterate 1
    first
      | (refine mv_take ?_ (Or.inl ⟨by rfl, ?_⟩) (⟨c0, c1, c2, d0, d1, d2⟩) ?_
         rotate_left 1
         · intro u hu
           (try dsimp only at hu)
           go_simp
           try with_reducible rfl
         simp only [Act.put, List.setIfInBounds_toArray, List.set_cons_zero, List.set_cons_succ])
      | (refine mv_take _ (Or.inr ⟨by rfl, rfl⟩) (⟨c0, c1, c2, d0, d1, d2⟩) ?_
         simp only [Act.put, List.setIfInBounds_toArray, List.set_cons_zero, List.set_cons_succ])
  refine mv_step (fun K hK => ?_)
  go_simp
  refine (DT.out _).mono ?_
  rintro e w2 ⟨rfl, hq⟩
  replace KO := Lib.hid (KO.out.drew.bel hq)
  replace KH := Lib.hid (KH.out.drew.bel hq)
  replace BS := Lib.hid ((Beside.as (v' := w1.drew) BS.out rfl rfl rfl rfl).trans (.of_below hq))
  clear hq c0 c1 c2 d0 l0 d1 l1 d2 l2
  have hh_ := KH.out
  obtain ⟨d0, l0⟩ := hh_.one 0 rfl
  obtain ⟨d1, l1⟩ := hh_.one 1 rfl
  obtain ⟨d2, l2⟩ := hh_.one 2 rfl
  clear hh_
  have c0 := KO.out.c 0 _ rfl
  have c1 := KO.out.c 1 _ rfl
  have c2 := KO.out.c 2 _ rfl
  go_wp2_with fail
  refine hK.out _ _ _ (fun u hu => hu) (⟨c0, c1, c2, d0, d1, d2⟩) ?_
  clear hK K
  iterate 2
    first
      | (refine mv_free ?_ (Or.inl ⟨by rfl, ?_⟩) (⟨c0, c1, c2, d0, d1, d2⟩) ?_
         rotate_left 1
         · intro u
           go_simp
           try simp only [d1]
           try simp only [d2]
           try simp only [d3]
           try with_reducible rfl
         simp only [Act.put, List.setIfInBounds_toArray, List.set_cons_zero, List.set_cons_succ])
      | (refine mv_free _ (Or.inr ⟨by rfl, rfl⟩) (⟨c0, c1, c2, d0, d1, d2⟩) ?_
         simp only [Act.put, List.setIfInBounds_toArray, List.set_cons_zero, List.set_cons_succ])
  refine mv_done ?_
  have g12 := KO.out.c 12 _ rfl
  have c14 := KO.out.c 14 _ rfl
  have f14 := KO.out.f 14 (by simp [KeC])
  have ew14 : IntKind.i64.wrap (rf + 1) = rf + 1 := IntWalk.i64_in _ ⟨by omega, by omega⟩
  go_upto_region 6 with (fail)
  obtain ⟨w6, ew6⟩ : ∃ w6, w6 = w2.setCell ⟨ob, 14, none⟩ (.int .i64 (rf + 1)) := ⟨_, rfl⟩
  obtain ⟨k6, b6⟩ := (((HB.start KO.out).set 14 (.int .i64 (rf + 1)) (by simp [KeC])).is (show _ = KeC X P g tk (rf + 1) from rfl)).fin (v' := w6) (by rw [ew6]) (by rw [ew6]) (by rw [ew6]) (by rw [ew6])
  rw [← ew6]
  replace ew6 := Lib.hid ew6
  have K6 := Lib.hid k6
  replace BS := Lib.hid (BS.out.trans b6)
  clear k6 b6 c14 f14 g12
  go_wp2
  go_ret
  exact ⟨rfl, K6.out, BS.out⟩
set_option maxRecDepth 100000 in
set_option maxHeartbeats 8000000 in
theorem rku_high1 (ob : Nat) (X P : Nat → Int) (g tk rf : Int) (H : Nat → Int) (z n : Int) (w : World) (k : Held ob (KeC X P g tk rf) w) (h0 : 1 ≤ n) (h1 : n ≤ 68719476736) (h2 : kIn H (-16777216) 16777216 = true) (h3 : -68719476736 ≤ z) (h4 : z ≤ 68719476736) (t1 : 0 ≤ tk ∧ tk < 1000000) (t2 : 0 ≤ rf ∧ rf < 1000000) (g1 : 1 ≤ g ∧ g ≤ 68719476736) (hg : kOff X H z ≤ g ∧ g < -kOff X H z) : Calls Try.prog 58 #[.pointer (some ⟨ob, 0, none⟩), .agg #[.int .i64 (H 0), .int .i64 (H 1), .int .i64 (H 2)], .int .i64 z, .int .i64 n] w fun e w' => e = .returned (.int .i64 9) ∧ Held ob (KeC X P g tk (rf + 1)) w' ∧ Beside ob w w' := by
  have blt := k.lt
  have db := dtI_bd H X
  have eo : kOff X H z = z - dtI H X := rfl
  have DT := fun u => rdot H X u
  obtain ⟨V, eV, hb0, hH, hz⟩ := rku_box w H
  have KH := Lib.hid hH
  have KO := Lib.hid (k.below hb0 blt)
  have BS := Lib.hid (Beside.of_below (b := ob) hb0)
  have B1 := fun u => rwithin H (-16777216) 16777216 u
  rw [h2] at B1
  replace B1 := Lib.hid B1
  replace eV := Lib.hid eV
  have HZ := Lib.hid hz
  clear hH hb0 h2 hz
  generalize kOff X H z = off at *
  generalize dtI H X = dx at *
  replace DT := Lib.hid DT
  have ew : IntKind.i64.wrap (z - dx) = off := by rw [eo]; exact IntWalk.i64_in _ ⟨by omega, by omega⟩
  have en : IntKind.i64.wrap (-off) = -off := IntWalk.i64_in _ ⟨by omega, by omega⟩
  clear db
  replace eo := Lib.hid eo
  clear k
  have hh_ := KH.out
  obtain ⟨d0, l0⟩ := hh_.one 0 rfl
  obtain ⟨d1, l1⟩ := hh_.one 1 rfl
  obtain ⟨d2, l2⟩ := hh_.one 2 rfl
  clear hh_
  go_enter Try.func58, Try.ntmps58
  go_wp2_with fail
  rw [← eV.out]
  go_wp2_with fail
  refine (B1.out _).mono ?_
  rintro e w1 ⟨rfl, hq⟩
  replace KO := Lib.hid (KO.out.bel hq)
  replace KH := Lib.hid (KH.out.bel hq)
  replace BS := Lib.hid (BS.out.trans (.of_below hq))
  clear hq d0 l0 d1 l1 d2 l2
  have hh_ := KH.out
  obtain ⟨d0, l0⟩ := hh_.one 0 rfl
  obtain ⟨d1, l1⟩ := hh_.one 1 rfl
  obtain ⟨d2, l2⟩ := hh_.one 2 rfl
  clear hh_
  have c0 := KO.out.c 0 _ rfl
  have c1 := KO.out.c 1 _ rfl
  have c2 := KO.out.c 2 _ rfl
  go_wp2_with fail
  refine region_moves (fun u => u.cell? ⟨ob, 0, none⟩ = some (.int .i64 (X 0)) ∧ u.cell? ⟨ob, 1, none⟩ = some (.int .i64 (X 1)) ∧ u.cell? ⟨ob, 2, none⟩ = some (.int .i64 (X 2)) ∧ u.cell? ⟨w.heap.size, 0, none⟩ = some (.int .i64 (H 0)) ∧ u.cell? ⟨w.heap.size, 1, none⟩ = some (.int .i64 (H 1)) ∧ u.cell? ⟨w.heap.size, 2, none⟩ = some (.int .i64 (H 2))) [] [(.free, 0), (.take, 1), (.free, 2), (.free, 3), (.free, 4), (.take, 5), (.step, 6), (.free, 7), (.free, 8)] _ (by kernel_rfl) (by kernel_rfl) (by kernel_rfl) (by kernel_rfl) (by decide) rfl (fun _ _ _ _ _ h => h) ?_
  simp only [List.filterMap_cons, List.filterMap_nil, List.getElem?_toArray, List.getElem?_cons_zero, List.getElem?_cons_succ, Option.map_some]
  iterate 1
    first
      | (refine mv_free ?_ (Or.inl ⟨by rfl, ?_⟩) (⟨c0, c1, c2, d0, d1, d2⟩) ?_
         rotate_left 1
         · intro u
           go_simp
           try simp only [d1]
           try simp only [d2]
           try simp only [d3]
           try with_reducible rfl
         simp only [Act.put, List.setIfInBounds_toArray, List.set_cons_zero, List.set_cons_succ])
      | (refine mv_free _ (Or.inr ⟨by rfl, rfl⟩) (⟨c0, c1, c2, d0, d1, d2⟩) ?_
         simp only [Act.put, List.setIfInBounds_toArray, List.set_cons_zero, List.set_cons_succ])
  iterate 1
    first
      | (refine mv_take ?_ (Or.inl ⟨by rfl, ?_⟩) (⟨c0, c1, c2, d0, d1, d2⟩) ?_
         rotate_left 1
         · intro u hu
           (try dsimp only at hu)
           go_simp
           try with_reducible rfl
         simp only [Act.put, List.setIfInBounds_toArray, List.set_cons_zero, List.set_cons_succ])
      | (refine mv_take _ (Or.inr ⟨by rfl, rfl⟩) (⟨c0, c1, c2, d0, d1, d2⟩) ?_
         simp only [Act.put, List.setIfInBounds_toArray, List.set_cons_zero, List.set_cons_succ])
  iterate 3
    first
      | (refine mv_free ?_ (Or.inl ⟨by rfl, ?_⟩) (⟨c0, c1, c2, d0, d1, d2⟩) ?_
         rotate_left 1
         · intro u
           go_simp
           try simp only [d1]
           try simp only [d2]
           try simp only [d3]
           try with_reducible rfl
         simp only [Act.put, List.setIfInBounds_toArray, List.set_cons_zero, List.set_cons_succ])
      | (refine mv_free _ (Or.inr ⟨by rfl, rfl⟩) (⟨c0, c1, c2, d0, d1, d2⟩) ?_
         simp only [Act.put, List.setIfInBounds_toArray, List.set_cons_zero, List.set_cons_succ])
  iterate 1
    first
      | (refine mv_take ?_ (Or.inl ⟨by rfl, ?_⟩) (⟨c0, c1, c2, d0, d1, d2⟩) ?_
         rotate_left 1
         · intro u hu
           (try dsimp only at hu)
           go_simp
           try with_reducible rfl
         simp only [Act.put, List.setIfInBounds_toArray, List.set_cons_zero, List.set_cons_succ])
      | (refine mv_take _ (Or.inr ⟨by rfl, rfl⟩) (⟨c0, c1, c2, d0, d1, d2⟩) ?_
         simp only [Act.put, List.setIfInBounds_toArray, List.set_cons_zero, List.set_cons_succ])
  refine mv_step (fun K hK => ?_)
  go_simp
  refine (DT.out _).mono ?_
  rintro e w2 ⟨rfl, hq⟩
  replace KO := Lib.hid (KO.out.drew.bel hq)
  replace KH := Lib.hid (KH.out.drew.bel hq)
  replace BS := Lib.hid ((Beside.as (v' := w1.drew) BS.out rfl rfl rfl rfl).trans (.of_below hq))
  clear hq c0 c1 c2 d0 l0 d1 l1 d2 l2
  have hh_ := KH.out
  obtain ⟨d0, l0⟩ := hh_.one 0 rfl
  obtain ⟨d1, l1⟩ := hh_.one 1 rfl
  obtain ⟨d2, l2⟩ := hh_.one 2 rfl
  clear hh_
  have c0 := KO.out.c 0 _ rfl
  have c1 := KO.out.c 1 _ rfl
  have c2 := KO.out.c 2 _ rfl
  go_wp2_with fail
  refine hK.out _ _ _ (fun u hu => hu) (⟨c0, c1, c2, d0, d1, d2⟩) ?_
  clear hK K
  iterate 2
    first
      | (refine mv_free ?_ (Or.inl ⟨by rfl, ?_⟩) (⟨c0, c1, c2, d0, d1, d2⟩) ?_
         rotate_left 1
         · intro u
           go_simp
           try simp only [d1]
           try simp only [d2]
           try simp only [d3]
           try with_reducible rfl
         simp only [Act.put, List.setIfInBounds_toArray, List.set_cons_zero, List.set_cons_succ])
      | (refine mv_free _ (Or.inr ⟨by rfl, rfl⟩) (⟨c0, c1, c2, d0, d1, d2⟩) ?_
         simp only [Act.put, List.setIfInBounds_toArray, List.set_cons_zero, List.set_cons_succ])
  refine mv_done ?_
  have g12 := KO.out.c 12 _ rfl
  obtain ⟨hg1, hg2⟩ := hg
  have c14 := KO.out.c 14 _ rfl
  have f14 := KO.out.f 14 (by simp [KeC])
  have ew14 : IntKind.i64.wrap (rf + 1) = rf + 1 := IntWalk.i64_in _ ⟨by omega, by omega⟩
  go_upto_region 6 with (fail)
  obtain ⟨w6, ew6⟩ : ∃ w6, w6 = w2.setCell ⟨ob, 14, none⟩ (.int .i64 (rf + 1)) := ⟨_, rfl⟩
  obtain ⟨k6, b6⟩ := (((HB.start KO.out).set 14 (.int .i64 (rf + 1)) (by simp [KeC])).is (show _ = KeC X P g tk (rf + 1) from rfl)).fin (v' := w6) (by rw [ew6]) (by rw [ew6]) (by rw [ew6]) (by rw [ew6])
  rw [← ew6]
  replace ew6 := Lib.hid ew6
  have K6 := Lib.hid k6
  replace BS := Lib.hid (BS.out.trans b6)
  clear k6 b6 c14 f14 g12
  go_wp2
  go_ret
  exact ⟨rfl, K6.out, BS.out⟩
end Go.Proofs.Ytakocggclopngaa
