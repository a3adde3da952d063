/- The estimator's Predict; walked. -/
import Derived.Test.YtakocggclopngaaKal2
import Derived.Test.YtakocggclopngaaInv
namespace Go.Proofs.Ytakocggclopngaa
open Go.ChangeShapes Go.WideShapes Go.ChangeAt Go.RowKit
set_option linter.unusedVariables false
set_option linter.unusedSimpArgs false
/-- The first k of the diagonal are not above 2^38. -/
def kMn (A : Nat → Int) (k t : Nat) : Int := if t % 4 = 0 ∧ t / 4 < k then (if 274877906944 < A t then 274877906944 else A t) else A t
def kA (P N : Nat → Int) (t : Nat) : Int := smI (P t) (dgl N t)
theorem kMn_all {P : Nat → Int} (h : kB P) (N : Nat → Int) (t : Nat) (ht : t < 9) : kMn (kA P N) 3 t = kPr P N t := by
  unfold kMn kPr kA dgl
  by_cases hd : t % 4 = 0
  · rw [if_pos ⟨hd, by omega⟩, if_pos hd, if_pos hd]
    omega
  · rw [if_neg (fun q => hd q.1), if_neg hd, if_neg hd, smI_zero (h t ht)]
theorem kMn_zero (A : Nat → Int) : kMn A 0 = A := by
  funext t
  unfold kMn
  rw [if_neg (by omega)]
theorem kMn_set0 (X A : Nat → Int) (g tk rf : Int) : (KeC X (kMn A 0) g tk rf).set 3 (.int .i64 (if 274877906944 < A 0 then 274877906944 else A 0)) = KeC X (kMn A 1) g tk rf := by simp [KeC, kMn]
theorem kMn_at0 (A : Nat → Int) : kMn A 0 0 = A 0 := by simp [kMn]
theorem kMn_set1 (X A : Nat → Int) (g tk rf : Int) : (KeC X (kMn A 1) g tk rf).set 7 (.int .i64 (if 274877906944 < A 4 then 274877906944 else A 4)) = KeC X (kMn A 2) g tk rf := by simp [KeC, kMn]
theorem kMn_at1 (A : Nat → Int) : kMn A 1 4 = A 4 := by simp [kMn]
theorem kMn_set2 (X A : Nat → Int) (g tk rf : Int) : (KeC X (kMn A 2) g tk rf).set 11 (.int .i64 (if 274877906944 < A 8 then 274877906944 else A 8)) = KeC X (kMn A 3) g tk rf := by simp [KeC, kMn]
theorem kMn_at2 (A : Nat → Int) : kMn A 2 8 = A 8 := by simp [kMn]
theorem kp_box (w : World) (N : Nat → Int) : ∃ V, V = (w.alloc (.cells #[.int .i64 (N 0), .int .i64 (N 1), .int .i64 (N 2)] 65)) ∧ Below w.heap.size w V ∧ Held w.heap.size [.int .i64 (N 0), .int .i64 (N 1), .int .i64 (N 2)] V ∧ V.heap.size = w.heap.size + 1 := by
  refine ⟨_, rfl, (by repeat (first | exact Below.refl _ _ | assumption | apply Below.drew | apply below_drewN | (refine Below.alloc ?_ (by first | exact Nat.le_refl _ | omega | (simp <;> omega)) _) | (refine Below.setCell ?_ (by first | exact Nat.le_refl _ | omega | (simp <;> omega)) _))), ?_, by simp⟩
  · have := (Held.new w [.int .i64 (N 0), .int .i64 (N 1), .int .i64 (N 2)] 65)
    simpa using this
set_option maxRecDepth 100000 in
set_option maxHeartbeats 8000000 in
theorem kpred_no (b : Nat) (X P : Nat → Int) (g tk rf : Int) (N : Nat → Int) (w : World) (hn : kIn N 0 68719476736 = false) : Calls Try.prog 49 #[.pointer (some ⟨b, 0, none⟩), .agg #[.int .i64 (N 0), .int .i64 (N 1), .int .i64 (N 2)]] w fun e w' => e = .returned (.int .i64 2) ∧ Below w.heap.size w w' := by
  obtain ⟨V, eV, hb0, hN, hz⟩ := kp_box w N
  have B1 := fun u => kall N 0 68719476736 u
  rw [hn] at B1
  replace B1 := Lib.hid B1
  obtain ⟨d0, f0⟩ := hN.one 0 rfl
  obtain ⟨d1, f1⟩ := hN.one 1 rfl
  obtain ⟨d2, f2⟩ := hN.one 2 rfl
  replace eV := Lib.hid eV
  replace hz := Lib.hid hz
  replace hb0 := Lib.hid hb0
  clear hN hn
  go_enter Try.func49, Try.ntmps49
  go_wp2_with fail
  rw [← eV.out]
  refine (B1.out _).mono ?_
  rintro e w1 ⟨rfl, hb1⟩
  have hb2 := Lib.hid (hb0.out.trans (hb1.mono hb0.out.size))
  clear hb1
  go_wp2
  go_ret
  exact ⟨rfl, hb2.out⟩
set_option maxRecDepth 100000 in
set_option maxHeartbeats 8000000 in
theorem kpred_nil (N : Nat → Int) (w : World) : Calls Try.prog 49 #[.pointer none, .agg #[.int .i64 (N 0), .int .i64 (N 1), .int .i64 (N 2)]] w fun e w' => e = .returned (.int .i64 1) ∧ Below w.heap.size w w' := by
  go_enter Try.func49, Try.ntmps49
  go_wp2
  go_ret
  exact ⟨rfl, (by repeat (first | exact Below.refl _ _ | assumption | apply Below.drew | apply below_drewN | (refine Below.alloc ?_ (by first | exact Nat.le_refl _ | omega | (simp <;> omega)) _) | (refine Below.setCell ?_ (by first | exact Nat.le_refl _ | omega | (simp <;> omega)) _)))⟩
set_option maxRecDepth 100000 in
set_option maxHeartbeats 8000000 in
theorem kpred (b : Nat) (X P : Nat → Int) (g tk rf : Int) (N : Nat → Int) (w : World) (k : Held b (KeC X P g tk rf) w) (hB : kB P) (hn : kIn N 0 68719476736 = true) : Calls Try.prog 49 #[.pointer (some ⟨b, 0, none⟩), .agg #[.int .i64 (N 0), .int .i64 (N 1), .int .i64 (N 2)]] w fun e w' => e = .returned (.int .i64 0) ∧ Held b (KeC X (kPr P N) g tk rf) w' ∧ Beside b w w' := by
  obtain ⟨V, eV, hb0, hN, hz⟩ := kp_box w N
  have blt := k.lt
  have FE := Lib.hid (KeC_eq (X := X) g tk rf (fun _ _ => rfl) (kMn_all hB N))
  have B1 := fun u => kall N 0 68719476736 u
  rw [hn] at B1
  replace B1 := Lib.hid B1
  have DG := Lib.hid (fun u => mdiag N u)
  have AD := fun u => madd P (dgl N) u
  simp only [show ∀ t, smI (P t) (dgl N t) = kA P N t from fun _ => rfl] at AD
  generalize kA P N = A at *
  replace AD := Lib.hid AD
  have K0 := Lib.hid (k.below hb0 blt)
  have N0 := Lib.hid hN
  replace eV := Lib.hid eV
  replace hz := Lib.hid hz
  replace hb0 := Lib.hid hb0
  clear hN hn k hB
  have kk := K0.out
  have hN := N0.out
  obtain ⟨c0, f0⟩ := kk.one 0 rfl
  obtain ⟨c1, f1⟩ := kk.one 1 rfl
  obtain ⟨c2, f2⟩ := kk.one 2 rfl
  obtain ⟨c3, f3⟩ := kk.one 3 rfl
  obtain ⟨c4, f4⟩ := kk.one 4 rfl
  obtain ⟨c5, f5⟩ := kk.one 5 rfl
  obtain ⟨c6, f6⟩ := kk.one 6 rfl
  obtain ⟨c7, f7⟩ := kk.one 7 rfl
  obtain ⟨c8, f8⟩ := kk.one 8 rfl
  obtain ⟨c9, f9⟩ := kk.one 9 rfl
  obtain ⟨c10, f10⟩ := kk.one 10 rfl
  obtain ⟨c11, f11⟩ := kk.one 11 rfl
  obtain ⟨c12, f12⟩ := kk.one 12 rfl
  obtain ⟨c13, f13⟩ := kk.one 13 rfl
  obtain ⟨c14, f14⟩ := kk.one 14 rfl
  obtain ⟨d0, g0⟩ := hN.one 0 rfl
  obtain ⟨d1, g1⟩ := hN.one 1 rfl
  obtain ⟨d2, g2⟩ := hN.one 2 rfl
  clear kk hN
  go_enter Try.func49, Try.ntmps49
  go_wp2_with fail
  rw [← eV.out]
  refine (B1.out _).mono ?_
  rintro e w1 ⟨rfl, hb1⟩
  have hb2 := Lib.hid (hb0.out.trans (hb1.mono hb0.out.size))
  have K1 := Lib.hid (K0.out.bel hb1)
  have N1 := Lib.hid (N0.out.bel hb1)
  clear hb1 K0 N0
  clear c0 f0 c1 f1 c2 f2 c3 f3 c4 f4 c5 f5 c6 f6 c7 f7 c8 f8 c9 f9 c10 f10 c11 f11 c12 f12 c13 f13 c14 f14 d0 d1 d2 g0 g1 g2
  have kk := K1.out
  have hN := N1.out
  obtain ⟨c0, f0⟩ := kk.one 0 rfl
  obtain ⟨c1, f1⟩ := kk.one 1 rfl
  obtain ⟨c2, f2⟩ := kk.one 2 rfl
  obtain ⟨c3, f3⟩ := kk.one 3 rfl
  obtain ⟨c4, f4⟩ := kk.one 4 rfl
  obtain ⟨c5, f5⟩ := kk.one 5 rfl
  obtain ⟨c6, f6⟩ := kk.one 6 rfl
  obtain ⟨c7, f7⟩ := kk.one 7 rfl
  obtain ⟨c8, f8⟩ := kk.one 8 rfl
  obtain ⟨c9, f9⟩ := kk.one 9 rfl
  obtain ⟨c10, f10⟩ := kk.one 10 rfl
  obtain ⟨c11, f11⟩ := kk.one 11 rfl
  obtain ⟨c12, f12⟩ := kk.one 12 rfl
  obtain ⟨c13, f13⟩ := kk.one 13 rfl
  obtain ⟨c14, f14⟩ := kk.one 14 rfl
  obtain ⟨d0, g0⟩ := hN.one 0 rfl
  obtain ⟨d1, g1⟩ := hN.one 1 rfl
  obtain ⟨d2, g2⟩ := hN.one 2 rfl
  clear kk hN
  go_wp2_with fail
  refine region_moves (fun u => u.cell? ⟨b, 3, none⟩ = some (.int .i64 (P 0)) ∧ u.cell? ⟨b, 4, none⟩ = some (.int .i64 (P 1)) ∧ u.cell? ⟨b, 5, none⟩ = some (.int .i64 (P 2)) ∧ u.cell? ⟨b, 6, none⟩ = some (.int .i64 (P 3)) ∧ u.cell? ⟨b, 7, none⟩ = some (.int .i64 (P 4)) ∧ u.cell? ⟨b, 8, none⟩ = some (.int .i64 (P 5)) ∧ u.cell? ⟨b, 9, none⟩ = some (.int .i64 (P 6)) ∧ u.cell? ⟨b, 10, none⟩ = some (.int .i64 (P 7)) ∧ u.cell? ⟨b, 11, none⟩ = some (.int .i64 (P 8)) ∧ u.cell? ⟨w.heap.size, 0, none⟩ = some (.int .i64 (N 0)) ∧ u.cell? ⟨w.heap.size, 1, none⟩ = some (.int .i64 (N 1)) ∧ u.cell? ⟨w.heap.size, 2, none⟩ = some (.int .i64 (N 2))) [(10, [(9, 10), (7, 10), (0, 10), (1, 10), (2, 10), (3, 10), (4, 10), (5, 10), (6, 10), (8, 9)])] [(.free, 0), (.free, 1), (.free, 2), (.free, 3), (.take, 4), (.take, 5), (.step, 6), (.step, 7), (.free, 8), (.free, 9), (.late, 10)] _ (by kernel_rfl) (by kernel_rfl) (by kernel_rfl) (by kernel_rfl) (by decide) rfl (fun _ _ _ _ _ h => h) ?_
  simp only [List.filterMap_cons, List.filterMap_nil, List.getElem?_toArray, List.getElem?_cons_zero, List.getElem?_cons_succ, Option.map_some]
  iterate 4
    first
      | (refine mv_free ?_ (Or.inl ⟨by rfl, ?_⟩) (⟨c3, c4, c5, c6, c7, c8, c9, c10, c11, d0, d1, d2⟩) ?_
         rotate_left 1
         · intro u
           go_simp
           try simp only [d1]
           try simp only [d2]
           try simp only [d3]
           try with_reducible rfl
         simp only [Act.put, List.setIfInBounds_toArray, List.set_cons_zero, List.set_cons_succ])
      | (refine mv_free _ (Or.inr ⟨by rfl, rfl⟩) (⟨c3, c4, c5, c6, c7, c8, c9, c10, c11, d0, d1, d2⟩) ?_
         simp only [Act.put, List.setIfInBounds_toArray, List.set_cons_zero, List.set_cons_succ])
  iterate 2
    first
      | (refine mv_take ?_ (Or.inl ⟨by rfl, ?_⟩) (⟨c3, c4, c5, c6, c7, c8, c9, c10, c11, d0, d1, d2⟩) ?_
         rotate_left 1
         · intro u hu
           (try dsimp only at hu)
           go_simp
           try with_reducible rfl
         simp only [Act.put, List.setIfInBounds_toArray, List.set_cons_zero, List.set_cons_succ])
      | (refine mv_take _ (Or.inr ⟨by rfl, rfl⟩) (⟨c3, c4, c5, c6, c7, c8, c9, c10, c11, d0, d1, d2⟩) ?_
         simp only [Act.put, List.setIfInBounds_toArray, List.set_cons_zero, List.set_cons_succ])
  refine mv_step (fun K hK => ?_)
  go_simp
  refine (DG.out _).mono ?_
  rintro e w2 ⟨rfl, hb1⟩
  have hb3 := Lib.hid (hb2.out.drew.trans (hb1.mono hb2.out.size))
  have K2 := Lib.hid (K1.out.drew.bel hb1)
  have N2 := Lib.hid (N1.out.drew.bel hb1)
  clear hb1 K1 N1 hb2
  clear c0 f0 c1 f1 c2 f2 c3 f3 c4 f4 c5 f5 c6 f6 c7 f7 c8 f8 c9 f9 c10 f10 c11 f11 c12 f12 c13 f13 c14 f14 d0 d1 d2 g0 g1 g2
  have kk := K2.out
  have hN := N2.out
  obtain ⟨c0, f0⟩ := kk.one 0 rfl
  obtain ⟨c1, f1⟩ := kk.one 1 rfl
  obtain ⟨c2, f2⟩ := kk.one 2 rfl
  obtain ⟨c3, f3⟩ := kk.one 3 rfl
  obtain ⟨c4, f4⟩ := kk.one 4 rfl
  obtain ⟨c5, f5⟩ := kk.one 5 rfl
  obtain ⟨c6, f6⟩ := kk.one 6 rfl
  obtain ⟨c7, f7⟩ := kk.one 7 rfl
  obtain ⟨c8, f8⟩ := kk.one 8 rfl
  obtain ⟨c9, f9⟩ := kk.one 9 rfl
  obtain ⟨c10, f10⟩ := kk.one 10 rfl
  obtain ⟨c11, f11⟩ := kk.one 11 rfl
  obtain ⟨c12, f12⟩ := kk.one 12 rfl
  obtain ⟨c13, f13⟩ := kk.one 13 rfl
  obtain ⟨c14, f14⟩ := kk.one 14 rfl
  obtain ⟨d0, g0⟩ := hN.one 0 rfl
  obtain ⟨d1, g1⟩ := hN.one 1 rfl
  obtain ⟨d2, g2⟩ := hN.one 2 rfl
  clear kk hN
  go_wp2_with fail
  refine hK.out _ _ _ (fun u hu => hu) (⟨c3, c4, c5, c6, c7, c8, c9, c10, c11, d0, d1, d2⟩) ?_
  clear hK K
  refine mv_step (fun K hK => ?_)
  go_simp
  refine (AD.out _).mono ?_
  rintro e w3 ⟨rfl, hb1⟩
  have hb4 := Lib.hid (hb3.out.trans (hb1.mono hb3.out.size))
  have K3 := Lib.hid (K2.out.bel hb1)
  have N3 := Lib.hid (N2.out.bel hb1)
  clear hb1 K2 N2 hb3
  clear c0 f0 c1 f1 c2 f2 c3 f3 c4 f4 c5 f5 c6 f6 c7 f7 c8 f8 c9 f9 c10 f10 c11 f11 c12 f12 c13 f13 c14 f14 d0 d1 d2 g0 g1 g2
  have kk := K3.out
  have hN := N3.out
  obtain ⟨c0, f0⟩ := kk.one 0 rfl
  obtain ⟨c1, f1⟩ := kk.one 1 rfl
  obtain ⟨c2, f2⟩ := kk.one 2 rfl
  obtain ⟨c3, f3⟩ := kk.one 3 rfl
  obtain ⟨c4, f4⟩ := kk.one 4 rfl
  obtain ⟨c5, f5⟩ := kk.one 5 rfl
  obtain ⟨c6, f6⟩ := kk.one 6 rfl
  obtain ⟨c7, f7⟩ := kk.one 7 rfl
  obtain ⟨c8, f8⟩ := kk.one 8 rfl
  obtain ⟨c9, f9⟩ := kk.one 9 rfl
  obtain ⟨c10, f10⟩ := kk.one 10 rfl
  obtain ⟨c11, f11⟩ := kk.one 11 rfl
  obtain ⟨c12, f12⟩ := kk.one 12 rfl
  obtain ⟨c13, f13⟩ := kk.one 13 rfl
  obtain ⟨c14, f14⟩ := kk.one 14 rfl
  obtain ⟨d0, g0⟩ := hN.one 0 rfl
  obtain ⟨d1, g1⟩ := hN.one 1 rfl
  obtain ⟨d2, g2⟩ := hN.one 2 rfl
  clear kk hN
  go_wp2_with fail
  refine hK.out _ _ _ (fun u hu => hu) (⟨c3, c4, c5, c6, c7, c8, c9, c10, c11, d0, d1, d2⟩) ?_
  clear hK K
  iterate 2
    first
      | (refine mv_free ?_ (Or.inl ⟨by rfl, ?_⟩) (⟨c3, c4, c5, c6, c7, c8, c9, c10, c11, d0, d1, d2⟩) ?_
         rotate_left 1
         · intro u
           go_simp
           try simp only [d1]
           try simp only [d2]
           try simp only [d3]
           try with_reducible rfl
         simp only [Act.put, List.setIfInBounds_toArray, List.set_cons_zero, List.set_cons_succ])
      | (refine mv_free _ (Or.inr ⟨by rfl, rfl⟩) (⟨c3, c4, c5, c6, c7, c8, c9, c10, c11, d0, d1, d2⟩) ?_
         simp only [Act.put, List.setIfInBounds_toArray, List.set_cons_zero, List.set_cons_succ])
  refine mv_late (fun K hK => ?_)
  go_simp
  refine hK.out (fun _ => True) _ _ ?_
  clear hK K
  refine mv_done ?_
  obtain ⟨w5, ew5⟩ : ∃ w5, w5 = (((((((((w3.setCell ⟨b, 3, none⟩ (.int .i64 (A 0))).setCell ⟨b, 4, none⟩ (.int .i64 (A 1))).setCell ⟨b, 5, none⟩ (.int .i64 (A 2))).setCell ⟨b, 6, none⟩ (.int .i64 (A 3))).setCell ⟨b, 7, none⟩ (.int .i64 (A 4))).setCell ⟨b, 8, none⟩ (.int .i64 (A 5))).setCell ⟨b, 9, none⟩ (.int .i64 (A 6))).setCell ⟨b, 10, none⟩ (.int .i64 (A 7))).setCell ⟨b, 11, none⟩ (.int .i64 (A 8))) := ⟨_, rfl⟩
  obtain ⟨k5, b5⟩ := (((((((((((HB.start K3.out).set 3 (.int .i64 (A 0)) (by simp [KeC])).set 4 (.int .i64 (A 1)) (by simp [KeC])).set 5 (.int .i64 (A 2)) (by simp [KeC])).set 6 (.int .i64 (A 3)) (by simp [KeC])).set 7 (.int .i64 (A 4)) (by simp [KeC])).set 8 (.int .i64 (A 5)) (by simp [KeC])).set 9 (.int .i64 (A 6)) (by simp [KeC])).set 10 (.int .i64 (A 7)) (by simp [KeC])).set 11 (.int .i64 (A 8)) (by simp [KeC])).is (show _ = KeC X (kMn A 0) g tk rf by rw [kMn_zero]; rfl)).fin (v' := w5) (by rw [ew5]) (by rw [ew5]) (by rw [ew5]) (by rw [ew5])
  rw [← ew5]
  have BS := Lib.hid ((Beside.of_below (b := b) hb4.out).trans b5)
  have K5 := Lib.hid k5
  replace ew5 := Lib.hid ew5
  clear k5 b5 K3 N3 hb4
  clear c0 f0 c1 f1 c2 f2 c3 f3 c4 f4 c5 f5 c6 f6 c7 f7 c8 f8 c9 f9 c10 f10 c11 f11 c12 f12 c13 f13 c14 f14 d0 d1 d2 g0 g1 g2
  go_wp2_with fail
  go_loopw [21] (fun i u => ∃ k : Nat, k ≤ 3 ∧ i = .int .i64 (k : Int) ∧ Hid (Held b (KeC X (kMn A k) g tk rf) u) ∧ Hid (Beside b w u)) (fun i _ => 3 - (intOf i).toNat)
  case atStart => exact ⟨0, by omega, rfl, K5, BS⟩
  case round =>
    clear K5 BS
    obtain ⟨k, hk, rfl, KK, BS⟩ := hrel
    rcases (show k = 0 ∨ k = 1 ∨ k = 2 ∨ k = 3 by omega) with rfl | rfl | rfl | rfl
    · have kk : ((0 : Nat) : Int) = 0 := rfl
      have c0 : wr.cell? ⟨b, 3, none⟩ = some (.int .i64 (A 0)) := (KK.out.c 3 _ rfl).trans (by rw [kMn_at0])
      have f0 := KK.out.f 3 (by simp [KeC])
      have e3 : (0 : Int) < 3 := by omega
      go_wp2_with fail
      refine region_moves (fun u => u.cell? ⟨b, 3, none⟩ = some (.int .i64 (A 0))) [(16, [(15, 16), (11, 16), (0, 16), (1, 16), (2, 16), (3, 16), (4, 16), (5, 16), (6, 16), (7, 16), (8, 16), (9, 16), (10, 16), (14, 15), (13, 14), (12, 13)])] [(.free, 0), (.free, 1), (.free, 2), (.free, 3), (.free, 4), (.free, 5), (.free, 6), (.free, 7), (.free, 8), (.free, 9), (.take, 10), (.free, 11), (.free, 12), (.free, 13), (.free, 14), (.free, 15), (.late, 16)] _ (by kernel_rfl) (by kernel_rfl) (by kernel_rfl) (by kernel_rfl) (by decide) rfl (fun _ _ _ _ _ h => h) ?_
      simp only [List.filterMap_cons, List.filterMap_nil, List.getElem?_toArray, List.getElem?_cons_zero, List.getElem?_cons_succ, Option.map_some]
      iterate 10
        first
          | (refine mv_free ?_ (Or.inl ⟨by rfl, ?_⟩) (c0) ?_
             rotate_left 1
             · intro u
               go_simp
               try simp only [d1]
               try simp only [d2]
               try simp only [d3]
               try with_reducible rfl
             simp only [Act.put, List.setIfInBounds_toArray, List.set_cons_zero, List.set_cons_succ])
          | (refine mv_free _ (Or.inr ⟨by rfl, rfl⟩) (c0) ?_
             simp only [Act.put, List.setIfInBounds_toArray, List.set_cons_zero, List.set_cons_succ])
      iterate 1
        first
          | (refine mv_take ?_ (Or.inl ⟨by rfl, ?_⟩) (c0) ?_
             rotate_left 1
             · intro u hu
               (try dsimp only at hu)
               go_simp
               try with_reducible rfl
             simp only [Act.put, List.setIfInBounds_toArray, List.set_cons_zero, List.set_cons_succ])
          | (refine mv_take _ (Or.inr ⟨by rfl, rfl⟩) (c0) ?_
             simp only [Act.put, List.setIfInBounds_toArray, List.set_cons_zero, List.set_cons_succ])
      iterate 5
        first
          | (refine mv_free ?_ (Or.inl ⟨by rfl, ?_⟩) (c0) ?_
             rotate_left 1
             · intro u
               go_simp
               try simp only [d1]
               try simp only [d2]
               try simp only [d3]
               try with_reducible rfl
             simp only [Act.put, List.setIfInBounds_toArray, List.set_cons_zero, List.set_cons_succ])
          | (refine mv_free _ (Or.inr ⟨by rfl, rfl⟩) (c0) ?_
             simp only [Act.put, List.setIfInBounds_toArray, List.set_cons_zero, List.set_cons_succ])
      refine mv_late (fun K hK => ?_)
      go_simp
      refine hK.out (fun _ => True) _ _ ?_
      clear hK K
      refine mv_done ?_
      obtain ⟨w6, ew6⟩ : ∃ w6, w6 = (wr.setCell ⟨b, 3, none⟩ (.int .i64 (if 274877906944 < A 0 then 274877906944 else A 0))).drew := ⟨_, rfl⟩
      obtain ⟨k6, b6⟩ := (((HB.start KK.out).set 3 (.int .i64 (if 274877906944 < A 0 then 274877906944 else A 0)) (by simp [KeC])).is (kMn_set0 X A g tk rf)).fin (v' := w6) (by rw [ew6]; rfl) (by rw [ew6]; rfl) (by rw [ew6]; rfl) (by rw [ew6]; rfl)
      rw [← ew6]
      replace ew6 := Lib.hid ew6
      have K6 := Lib.hid k6
      have B6 := Lib.hid (BS.out.trans b6)
      clear k6 b6 KK BS c0 f0
      go_wp2
      go_roundw
      case rel => exact ⟨0 + 1, by omega, by first | rfl | go_num, K6, B6⟩
      case measure => simp [intOf]
    · have kk : ((1 : Nat) : Int) = 1 := rfl
      have c0 : wr.cell? ⟨b, 7, none⟩ = some (.int .i64 (A 4)) := (KK.out.c 7 _ rfl).trans (by rw [kMn_at1])
      have f0 := KK.out.f 7 (by simp [KeC])
      have e3 : (1 : Int) < 3 := by omega
      go_wp2_with fail
      refine region_moves (fun u => u.cell? ⟨b, 7, none⟩ = some (.int .i64 (A 4))) [(16, [(15, 16), (11, 16), (0, 16), (1, 16), (2, 16), (3, 16), (4, 16), (5, 16), (6, 16), (7, 16), (8, 16), (9, 16), (10, 16), (14, 15), (13, 14), (12, 13)])] [(.free, 0), (.free, 1), (.free, 2), (.free, 3), (.free, 4), (.free, 5), (.free, 6), (.free, 7), (.free, 8), (.free, 9), (.take, 10), (.free, 11), (.free, 12), (.free, 13), (.free, 14), (.free, 15), (.late, 16)] _ (by kernel_rfl) (by kernel_rfl) (by kernel_rfl) (by kernel_rfl) (by decide) rfl (fun _ _ _ _ _ h => h) ?_
      simp only [List.filterMap_cons, List.filterMap_nil, List.getElem?_toArray, List.getElem?_cons_zero, List.getElem?_cons_succ, Option.map_some]
      iterate 10
        first
          | (refine mv_free ?_ (Or.inl ⟨by rfl, ?_⟩) (c0) ?_
             rotate_left 1
             · intro u
               go_simp
               try simp only [d1]
               try simp only [d2]
               try simp only [d3]
               try with_reducible rfl
             simp only [Act.put, List.setIfInBounds_toArray, List.set_cons_zero, List.set_cons_succ])
          | (refine mv_free _ (Or.inr ⟨by rfl, rfl⟩) (c0) ?_
             simp only [Act.put, List.setIfInBounds_toArray, List.set_cons_zero, List.set_cons_succ])
      iterate 1
        first
          | (refine mv_take ?_ (Or.inl ⟨by rfl, ?_⟩) (c0) ?_
             rotate_left 1
             · intro u hu
               (try dsimp only at hu)
               go_simp
               try with_reducible rfl
             simp only [Act.put, List.setIfInBounds_toArray, List.set_cons_zero, List.set_cons_succ])
          | (refine mv_take _ (Or.inr ⟨by rfl, rfl⟩) (c0) ?_
             simp only [Act.put, List.setIfInBounds_toArray, List.set_cons_zero, List.set_cons_succ])
      iterate 5
        first
          | (refine mv_free ?_ (Or.inl ⟨by rfl, ?_⟩) (c0) ?_
             rotate_left 1
             · intro u
               go_simp
               try simp only [d1]
               try simp only [d2]
               try simp only [d3]
               try with_reducible rfl
             simp only [Act.put, List.setIfInBounds_toArray, List.set_cons_zero, List.set_cons_succ])
          | (refine mv_free _ (Or.inr ⟨by rfl, rfl⟩) (c0) ?_
             simp only [Act.put, List.setIfInBounds_toArray, List.set_cons_zero, List.set_cons_succ])
      refine mv_late (fun K hK => ?_)
      go_simp
      refine hK.out (fun _ => True) _ _ ?_
      clear hK K
      refine mv_done ?_
      obtain ⟨w6, ew6⟩ : ∃ w6, w6 = (wr.setCell ⟨b, 7, none⟩ (.int .i64 (if 274877906944 < A 4 then 274877906944 else A 4))).drew := ⟨_, rfl⟩
      obtain ⟨k6, b6⟩ := (((HB.start KK.out).set 7 (.int .i64 (if 274877906944 < A 4 then 274877906944 else A 4)) (by simp [KeC])).is (kMn_set1 X A g tk rf)).fin (v' := w6) (by rw [ew6]; rfl) (by rw [ew6]; rfl) (by rw [ew6]; rfl) (by rw [ew6]; rfl)
      rw [← ew6]
      replace ew6 := Lib.hid ew6
      have K6 := Lib.hid k6
      have B6 := Lib.hid (BS.out.trans b6)
      clear k6 b6 KK BS c0 f0
      go_wp2
      go_roundw
      case rel => exact ⟨1 + 1, by omega, by first | rfl | go_num, K6, B6⟩
      case measure => simp [intOf]
    · have kk : ((2 : Nat) : Int) = 2 := rfl
      have c0 : wr.cell? ⟨b, 11, none⟩ = some (.int .i64 (A 8)) := (KK.out.c 11 _ rfl).trans (by rw [kMn_at2])
      have f0 := KK.out.f 11 (by simp [KeC])
      have e3 : (2 : Int) < 3 := by omega
      go_wp2_with fail
      refine region_moves (fun u => u.cell? ⟨b, 11, none⟩ = some (.int .i64 (A 8))) [(16, [(15, 16), (11, 16), (0, 16), (1, 16), (2, 16), (3, 16), (4, 16), (5, 16), (6, 16), (7, 16), (8, 16), (9, 16), (10, 16), (14, 15), (13, 14), (12, 13)])] [(.free, 0), (.free, 1), (.free, 2), (.free, 3), (.free, 4), (.free, 5), (.free, 6), (.free, 7), (.free, 8), (.free, 9), (.take, 10), (.free, 11), (.free, 12), (.free, 13), (.free, 14), (.free, 15), (.late, 16)] _ (by kernel_rfl) (by kernel_rfl) (by kernel_rfl) (by kernel_rfl) (by decide) rfl (fun _ _ _ _ _ h => h) ?_
      simp only [List.filterMap_cons, List.filterMap_nil, List.getElem?_toArray, List.getElem?_cons_zero, List.getElem?_cons_succ, Option.map_some]
      iterate 10
        first
          | (refine mv_free ?_ (Or.inl ⟨by rfl, ?_⟩) (c0) ?_
             rotate_left 1
             · intro u
               go_simp
               try simp only [d1]
               try simp only [d2]
               try simp only [d3]
               try with_reducible rfl
             simp only [Act.put, List.setIfInBounds_toArray, List.set_cons_zero, List.set_cons_succ])
          | (refine mv_free _ (Or.inr ⟨by rfl, rfl⟩) (c0) ?_
             simp only [Act.put, List.setIfInBounds_toArray, List.set_cons_zero, List.set_cons_succ])
      iterate 1
        first
          | (refine mv_take ?_ (Or.inl ⟨by rfl, ?_⟩) (c0) ?_
             rotate_left 1
             · intro u hu
               (try dsimp only at hu)
               go_simp
               try with_reducible rfl
             simp only [Act.put, List.setIfInBounds_toArray, List.set_cons_zero, List.set_cons_succ])
          | (refine mv_take _ (Or.inr ⟨by rfl, rfl⟩) (c0) ?_
             simp only [Act.put, List.setIfInBounds_toArray, List.set_cons_zero, List.set_cons_succ])
      iterate 5
        first
          | (refine mv_free ?_ (Or.inl ⟨by rfl, ?_⟩) (c0) ?_
             rotate_left 1
             · intro u
               go_simp
               try simp only [d1]
               try simp only [d2]
               try simp only [d3]
               try with_reducible rfl
             simp only [Act.put, List.setIfInBounds_toArray, List.set_cons_zero, List.set_cons_succ])
          | (refine mv_free _ (Or.inr ⟨by rfl, rfl⟩) (c0) ?_
             simp only [Act.put, List.setIfInBounds_toArray, List.set_cons_zero, List.set_cons_succ])
      refine mv_late (fun K hK => ?_)
      go_simp
      refine hK.out (fun _ => True) _ _ ?_
      clear hK K
      refine mv_done ?_
      obtain ⟨w6, ew6⟩ : ∃ w6, w6 = (wr.setCell ⟨b, 11, none⟩ (.int .i64 (if 274877906944 < A 8 then 274877906944 else A 8))).drew := ⟨_, rfl⟩
      obtain ⟨k6, b6⟩ := (((HB.start KK.out).set 11 (.int .i64 (if 274877906944 < A 8 then 274877906944 else A 8)) (by simp [KeC])).is (kMn_set2 X A g tk rf)).fin (v' := w6) (by rw [ew6]; rfl) (by rw [ew6]; rfl) (by rw [ew6]; rfl) (by rw [ew6]; rfl)
      rw [← ew6]
      replace ew6 := Lib.hid ew6
      have K6 := Lib.hid k6
      have B6 := Lib.hid (BS.out.trans b6)
      clear k6 b6 KK BS c0 f0
      go_wp2
      go_roundw
      case rel => exact ⟨2 + 1, by omega, by first | rfl | go_num, K6, B6⟩
      case measure => simp [intOf]
    · have kk : ((3 : Nat) : Int) = 3 := rfl
      go_wp2
      go_ret
      exact ⟨rfl, FE.out ▸ KK.out, BS.out⟩
end Go.Proofs.Ytakocggclopngaa
