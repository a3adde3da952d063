/- The document's Update of a measurement that is taken, its sum not low; walked. -/
import Derived.Test.YtakocggclopngaaKal8
namespace Go.Proofs.Ytakocggclopngaa
open Go.ChangeShapes Go.WideShapes Go.ChangeAt Go.RowKit
set_option linter.unusedVariables false
set_option linter.unusedSimpArgs false
set_option maxRecDepth 100000 in
set_option maxHeartbeats 8000000 in
theorem rku_ok1 (ob : Nat) (X P : Nat → Int) (g tk rf : Int) (H : Nat → Int) (z n : Int) (w : World) (k : Held ob (KeC X P g tk rf) w) (h0 : 1 ≤ n) (h1 : n ≤ 68719476736) (h2 : kIn H (-16777216) 16777216 = true) (h3 : -68719476736 ≤ z) (h4 : z ≤ 68719476736) (t1 : 0 ≤ tk ∧ tk < 1000000) (t2 : 0 ≤ rf ∧ rf < 1000000) (g1 : 1 ≤ g ∧ g ≤ 68719476736) (hg : -g ≤ kOff X H z ∧ kOff X H z ≤ g) (hd : 0 ≤ dtI H (kV P H)) : Calls Try.prog 58 #[.pointer (some ⟨ob, 0, none⟩), .agg #[.int .i64 (H 0), .int .i64 (H 1), .int .i64 (H 2)], .int .i64 z, .int .i64 n] w fun e w' => e = .returned (.int .i64 0) ∧ Held ob (KeC (kX X P H n (kOff X H z)) (kP P H n) g (tk + 1) rf) w' ∧ Beside ob w w' := by
  have blt := k.lt
  have db := dtI_bd H X
  have eo : kOff X H z = z - dtI H X := rfl
  have DT := fun u => rdot H X u
  obtain ⟨V, eV, hb0, hH, hz⟩ := rku_box w H
  have KH := Lib.hid hH
  have KO := Lib.hid (k.below hb0 blt)
  have BS := Lib.hid (Beside.of_below (b := ob) hb0)
  have B1 := fun u => rwithin H (-16777216) 16777216 u
  rw [h2] at B1
  replace B1 := Lib.hid B1
  replace eV := Lib.hid eV
  have HZ := Lib.hid hz
  clear hH hb0 h2 hz
  have sb := kS_bd P H (n := n) (by omega)
  have hS : kS P H n = (if dtI H (kV P H) < 0 then 0 else dtI H (kV P H)) + n := rfl
  have hof : -68719476736 ≤ kOff X H z ∧ kOff X H z ≤ 68719476736 := by omega
  have FE := Lib.hid (show KeC (kX X P H n (kOff X H z)) (mir (kD P H n)) g (tk + 1) rf = KeC (kX X P H n (kOff X H z)) (kP P H n) g (tk + 1) rf from rfl)
  have RW0 := fun u => rrow0 P u
  have RW1 := fun u => rrow1 P u
  have RW2 := fun u => rrow2 P u
  have DV0 := fun u => show Calls Try.prog 33 #[.agg #[.int .i64 (P 0), .int .i64 (P 1), .int .i64 (P 2)], .agg #[.int .i64 (H 0), .int .i64 (H 1), .int .i64 (H 2)]] u fun e w' => e = .returned (.int .i64 (kV P H 0)) ∧ Below u.heap.size u w' from rdot' (P 0) (P 1) (P 2) (H 0) (H 1) (H 2) u
  have DV1 := fun u => show Calls Try.prog 33 #[.agg #[.int .i64 (P 3), .int .i64 (P 4), .int .i64 (P 5)], .agg #[.int .i64 (H 0), .int .i64 (H 1), .int .i64 (H 2)]] u fun e w' => e = .returned (.int .i64 (kV P H 1)) ∧ Below u.heap.size u w' from rdot' (P 3) (P 4) (P 5) (H 0) (H 1) (H 2) u
  have DV2 := fun u => show Calls Try.prog 33 #[.agg #[.int .i64 (P 6), .int .i64 (P 7), .int .i64 (P 8)], .agg #[.int .i64 (H 0), .int .i64 (H 1), .int .i64 (H 2)]] u fun e w' => e = .returned (.int .i64 (kV P H 2)) ∧ Below u.heap.size u w' from rdot' (P 6) (P 7) (P 8) (H 0) (H 1) (H 2) u
  have DS := fun u => rdot H (kV P H) u
  have F1 := fun t u => rfit_any (kV P H t) 1048576 (kS P H n) u (by have := kV_bd P H t; omega) (by have := kV_bd P H t; omega) (by omega) (by omega) (by omega) (by omega)
  have C1 := fun t u => c09_any (fitV (kV P H t) 1048576 (kS P H n)) (-68719476736) 68719476736 (by omega) u
  simp only [c09_36] at C1
  simp only [show ∀ t, c36 (fitV (kV P H t) 1048576 (kS P H n)) = kGn P H n t from fun _ => rfl] at C1
  have T1 := fun t u => rtimes (kGn P H n t) (kOff X H z) u
  simp only [show ∀ t, prd (kGn P H n t) (kOff X H z) = kMv P H n (kOff X H z) t from fun t => (kMv_prd P H n hof t).symm] at T1
  have S1 := fun t u => rsum40 (X t) (kMv P H n (kOff X H z) t) u
  have C2 := fun t u => c09_any (smI (X t) (kMv P H n (kOff X H z) t)) (-68719476736) 68719476736 (by omega) u
  simp only [c09_36] at C2
  simp only [show ∀ t, c36 (smI (X t) (kMv P H n (kOff X H z) t)) = kX X P H n (kOff X H z) t from fun _ => rfl] at C2
  have OU := fun u => router (kGn P H n) (kV P H) u
  have ob1 := fun t => out_bd (kGn P H n) (kV P H) t
  have S2 := fun t u => rsum40 (P t) (-(out (kGn P H n) (kV P H) t)) u
  simp only [smI_neg] at S2
  simp only [show ∀ t, sbI (P t) (out (kGn P H n) (kV P H) t) = kP1 P H n t from fun _ => rfl] at S2
  have DD : ∀ t, kD P H n t = if t % 4 = 0 then (if kP1 P H n t < 0 then 0 else kP1 P H n t) else kP1 P H n t := fun _ => rfl
  generalize kD P H n = D at *
  generalize kP1 P H n = P1 at *
  generalize out (kGn P H n) (kV P H) = OO at *
  generalize hX2 : kX X P H n (kOff X H z) = X2 at *
  generalize kMv P H n (kOff X H z) = Mv at *
  generalize kGn P H n = G at *
  generalize kS P H n = s at *
  have db2 := dtI_bd H (kV P H)
  generalize dtI H (kV P H) = d at *
  generalize kV P H = V0 at *
  rw [if_neg (by omega)] at hS
  have ews : IntKind.i64.wrap (d + n) = s := by rw [hS]; exact IntWalk.i64_in _ ⟨by omega, by omega⟩
  replace hS := Lib.hid hS
  replace RW0 := Lib.hid RW0
  replace RW1 := Lib.hid RW1
  replace RW2 := Lib.hid RW2
  replace DV0 := Lib.hid DV0
  replace DV1 := Lib.hid DV1
  replace DV2 := Lib.hid DV2
  replace DS := Lib.hid DS
  replace F1 := Lib.hid F1
  replace C1 := Lib.hid C1
  replace T1 := Lib.hid T1
  replace S1 := Lib.hid S1
  replace C2 := Lib.hid C2
  replace OU := Lib.hid OU
  replace ob1 := Lib.hid ob1
  replace S2 := Lib.hid S2
  replace DD := Lib.hid DD
  replace hX2 := Lib.hid hX2
  generalize kOff X H z = off at *
  generalize dtI H X = dx at *
  replace DT := Lib.hid DT
  have ew : IntKind.i64.wrap (z - dx) = off := by rw [eo]; exact IntWalk.i64_in _ ⟨by omega, by omega⟩
  have en : IntKind.i64.wrap (-off) = -off := IntWalk.i64_in _ ⟨by omega, by omega⟩
  clear db
  replace eo := Lib.hid eo
  clear k
  have hh_ := KH.out
  obtain ⟨d0, l0⟩ := hh_.one 0 rfl
  obtain ⟨d1, l1⟩ := hh_.one 1 rfl
  obtain ⟨d2, l2⟩ := hh_.one 2 rfl
  clear hh_
  go_enter Try.func58, Try.ntmps58
  go_wp2_with fail
  rw [← eV.out]
  go_wp2_with fail
  refine (B1.out _).mono ?_
  rintro e w1 ⟨rfl, hq⟩
  replace KO := Lib.hid (KO.out.bel hq)
  replace KH := Lib.hid (KH.out.bel hq)
  replace BS := Lib.hid (BS.out.trans (.of_below hq))
  clear hq d0 l0 d1 l1 d2 l2
  have hh_ := KH.out
  obtain ⟨d0, l0⟩ := hh_.one 0 rfl
  obtain ⟨d1, l1⟩ := hh_.one 1 rfl
  obtain ⟨d2, l2⟩ := hh_.one 2 rfl
  clear hh_
  have c0 := KO.out.c 0 _ rfl
  have c1 := KO.out.c 1 _ rfl
  have c2 := KO.out.c 2 _ rfl
  go_wp2_with fail
  refine region_moves (fun u => u.cell? ⟨ob, 0, none⟩ = some (.int .i64 (X 0)) ∧ u.cell? ⟨ob, 1, none⟩ = some (.int .i64 (X 1)) ∧ u.cell? ⟨ob, 2, none⟩ = some (.int .i64 (X 2)) ∧ u.cell? ⟨w.heap.size, 0, none⟩ = some (.int .i64 (H 0)) ∧ u.cell? ⟨w.heap.size, 1, none⟩ = some (.int .i64 (H 1)) ∧ u.cell? ⟨w.heap.size, 2, none⟩ = some (.int .i64 (H 2))) [] [(.free, 0), (.take, 1), (.free, 2), (.free, 3), (.free, 4), (.take, 5), (.step, 6), (.free, 7), (.free, 8)] _ (by kernel_rfl) (by kernel_rfl) (by kernel_rfl) (by kernel_rfl) (by decide) rfl (fun _ _ _ _ _ h => h) ?_
  simp only [List.filterMap_cons, List.filterMap_nil, List.getElem?_toArray, List.getElem?_cons_zero, List.getElem?_cons_succ, Option.map_some]
  iterate 1
    first
      | (refine mv_free ?_ (Or.inl ⟨by rfl, ?_⟩) (⟨c0, c1, c2, d0, d1, d2⟩) ?_
         rotate_left 1
         · intro u
           go_simp
           try simp only [d1]
           try simp only [d2]
           try simp only [d3]
           try with_reducible rfl
         simp only [Act.put, List.setIfInBounds_toArray, List.set_cons_zero, List.set_cons_succ])
      | (refine mv_free _ (Or.inr ⟨by rfl, rfl⟩) (⟨c0, c1, c2, d0, d1, d2⟩) ?_
         simp only [Act.put, List.setIfInBounds_toArray, List.set_cons_zero, List.set_cons_succ])
  iterate 1
    first
      | (refine mv_take ?_ (Or.inl ⟨by rfl, ?_⟩) (⟨c0, c1, c2, d0, d1, d2⟩) ?_
         rotate_left 1
         · intro u hu
           (try dsimp only at hu)
           go_simp
           try with_reducible rfl
         simp only [Act.put, List.setIfInBounds_toArray, List.set_cons_zero, List.set_cons_succ])
      | (refine mv_take _ (Or.inr ⟨by rfl, rfl⟩) (⟨c0, c1, c2, d0, d1, d2⟩) ?_
         simp only [Act.put, List.setIfInBounds_toArray, List.set_cons_zero, List.set_cons_succ])
  iterate 3
    first
      | (refine mv_free ?_ (Or.inl ⟨by rfl, ?_⟩) (⟨c0, c1, c2, d0, d1, d2⟩) ?_
         rotate_left 1
         · intro u
           go_simp
           try simp only [d1]
           try simp only [d2]
           try simp only [d3]
           try with_reducible rfl
         simp only [Act.put, List.setIfInBounds_toArray, List.set_cons_zero, List.set_cons_succ])
      | (refine mv_free _ (Or.inr ⟨by rfl, rfl⟩) (⟨c0, c1, c2, d0, d1, d2⟩) ?_
         simp only [Act.put, List.setIfInBounds_toArray, List.set_cons_zero, List.set_cons_succ])
  iterate 1
    first
      | (refine mv_take ?_ (Or.inl ⟨by rfl, ?_⟩) (⟨c0, c1, c2, d0, d1, d2⟩) ?_
         rotate_left 1
         · intro u hu
           (try dsimp only at hu)
           go_simp
           try with_reducible rfl
         simp only [Act.put, List.setIfInBounds_toArray, List.set_cons_zero, List.set_cons_succ])
      | (refine mv_take _ (Or.inr ⟨by rfl, rfl⟩) (⟨c0, c1, c2, d0, d1, d2⟩) ?_
         simp only [Act.put, List.setIfInBounds_toArray, List.set_cons_zero, List.set_cons_succ])
  refine mv_step (fun K hK => ?_)
  go_simp
  refine (DT.out _).mono ?_
  rintro e w2 ⟨rfl, hq⟩
  replace KO := Lib.hid (KO.out.drew.bel hq)
  replace KH := Lib.hid (KH.out.drew.bel hq)
  replace BS := Lib.hid ((Beside.as (v' := w1.drew) BS.out rfl rfl rfl rfl).trans (.of_below hq))
  clear hq c0 c1 c2 d0 l0 d1 l1 d2 l2
  have hh_ := KH.out
  obtain ⟨d0, l0⟩ := hh_.one 0 rfl
  obtain ⟨d1, l1⟩ := hh_.one 1 rfl
  obtain ⟨d2, l2⟩ := hh_.one 2 rfl
  clear hh_
  have c0 := KO.out.c 0 _ rfl
  have c1 := KO.out.c 1 _ rfl
  have c2 := KO.out.c 2 _ rfl
  go_wp2_with fail
  refine hK.out _ _ _ (fun u hu => hu) (⟨c0, c1, c2, d0, d1, d2⟩) ?_
  clear hK K
  iterate 2
    first
      | (refine mv_free ?_ (Or.inl ⟨by rfl, ?_⟩) (⟨c0, c1, c2, d0, d1, d2⟩) ?_
         rotate_left 1
         · intro u
           go_simp
           try simp only [d1]
           try simp only [d2]
           try simp only [d3]
           try with_reducible rfl
         simp only [Act.put, List.setIfInBounds_toArray, List.set_cons_zero, List.set_cons_succ])
      | (refine mv_free _ (Or.inr ⟨by rfl, rfl⟩) (⟨c0, c1, c2, d0, d1, d2⟩) ?_
         simp only [Act.put, List.setIfInBounds_toArray, List.set_cons_zero, List.set_cons_succ])
  refine mv_done ?_
  have g12 := KO.out.c 12 _ rfl
  obtain ⟨hg1, hg2⟩ := hg
  have hg3 : ¬ g < off := by omega
  have hg4 : ¬ g < -off := by omega
  go_upto_region 8 with (fail)
  clear c0 c1 c2 d0 l0 d1 l1 d2 l2 g12
  obtain ⟨vb, evb⟩ : ∃ vb, vb = w2.heap.size := ⟨_, rfl⟩
  have vl1 : w.heap.size < vb := by rw [evb]; exact KH.out.lt
  have vl2 : ob < vb := by rw [evb]; exact KO.out.lt
  obtain ⟨w4, ew4⟩ : ∃ w4, w4 = (w2.alloc (.cells #[.int .i64 0, .int .i64 0, .int .i64 0] 54)).alloc (.cells #[.int .i64 0, .int .i64 0, .int .i64 0] 54) := ⟨_, rfl⟩
  have KV := Lib.hid (show Held vb (vC V0 0) w4 by rw [ew4, evb, vC_zero]; exact (Held.new w2 [.int .i64 0, .int .i64 0, .int .i64 0] 54).alloc _)
  have KG := Lib.hid (show Held (vb + 1) (vC G 0) w4 by rw [ew4, evb, vC_zero]; have := Held.new (w2.alloc (.cells #[.int .i64 0, .int .i64 0, .int .i64 0] 54)) [.int .i64 0, .int .i64 0, .int .i64 0] 54; simpa using this)
  have hq4 : Below w2.heap.size w2 w4 := by rw [ew4]; exact ((Below.refl _ _).alloc (Nat.le_refl _) _).alloc (by simp) _
  replace KO := Lib.hid (KO.out.bel hq4)
  replace KH := Lib.hid (KH.out.bel hq4)
  replace BS := Lib.hid (BS.out.trans (.of_below hq4))
  clear hq4
  rw [← ew4, ← evb]
  replace ew4 := Lib.hid ew4
  replace evb := Lib.hid evb
  go_wp2_with fail
  go_loopw [12] (fun i u => ∃ k : Nat, k ≤ 3 ∧ i = .int .i64 (k : Int) ∧ Hid (Held ob (KeC X P g tk rf) u) ∧ Hid (Held w.heap.size [.int .i64 (H 0), .int .i64 (H 1), .int .i64 (H 2)] u) ∧ Hid (Held vb (vC V0 k) u) ∧ Hid (Held (vb + 1) (vC G 0) u) ∧ Hid (Beside ob w u)) (fun i _ => 3 - (intOf i).toNat)
  case atStart => exact ⟨0, by omega, rfl, KO, KH, KV, KG, BS⟩
  case round =>
    clear KO KH KV KG BS
    obtain ⟨k, hk, rfl, KO, KH, KV, KG, BS⟩ := hrel
    rcases (show k = 0 ∨ k = 1 ∨ k = 2 ∨ k = 3 by omega) with rfl | rfl | rfl | rfl
    · have kk : ((0 : Nat) : Int) = 0 := rfl
      have hh_ := KO.out
      obtain ⟨c0, f0⟩ := hh_.one 0 rfl
      obtain ⟨c1, f1⟩ := hh_.one 1 rfl
      obtain ⟨c2, f2⟩ := hh_.one 2 rfl
      obtain ⟨c3, f3⟩ := hh_.one 3 rfl
      obtain ⟨c4, f4⟩ := hh_.one 4 rfl
      obtain ⟨c5, f5⟩ := hh_.one 5 rfl
      obtain ⟨c6, f6⟩ := hh_.one 6 rfl
      obtain ⟨c7, f7⟩ := hh_.one 7 rfl
      obtain ⟨c8, f8⟩ := hh_.one 8 rfl
      obtain ⟨c9, f9⟩ := hh_.one 9 rfl
      obtain ⟨c10, f10⟩ := hh_.one 10 rfl
      obtain ⟨c11, f11⟩ := hh_.one 11 rfl
      obtain ⟨c12, f12⟩ := hh_.one 12 rfl
      obtain ⟨c13, f13⟩ := hh_.one 13 rfl
      obtain ⟨c14, f14⟩ := hh_.one 14 rfl
      clear hh_
      have hh_ := KH.out
      obtain ⟨d0, l0⟩ := hh_.one 0 rfl
      obtain ⟨d1, l1⟩ := hh_.one 1 rfl
      obtain ⟨d2, l2⟩ := hh_.one 2 rfl
      clear hh_
      go_wp2_with fail
      refine region_moves (fun u => u.cell? ⟨ob, 3, none⟩ = some (.int .i64 (P 0)) ∧ u.cell? ⟨ob, 4, none⟩ = some (.int .i64 (P 1)) ∧ u.cell? ⟨ob, 5, none⟩ = some (.int .i64 (P 2)) ∧ u.cell? ⟨ob, 6, none⟩ = some (.int .i64 (P 3)) ∧ u.cell? ⟨ob, 7, none⟩ = some (.int .i64 (P 4)) ∧ u.cell? ⟨ob, 8, none⟩ = some (.int .i64 (P 5)) ∧ u.cell? ⟨ob, 9, none⟩ = some (.int .i64 (P 6)) ∧ u.cell? ⟨ob, 10, none⟩ = some (.int .i64 (P 7)) ∧ u.cell? ⟨ob, 11, none⟩ = some (.int .i64 (P 8)) ∧ u.cell? ⟨w.heap.size, 0, none⟩ = some (.int .i64 (H 0)) ∧ u.cell? ⟨w.heap.size, 1, none⟩ = some (.int .i64 (H 1)) ∧ u.cell? ⟨w.heap.size, 2, none⟩ = some (.int .i64 (H 2))) [(10, [(9, 10), (8, 10), (0, 10), (1, 10), (2, 10), (3, 10), (4, 10), (5, 10), (6, 10), (7, 10)])] [(.free, 0), (.free, 1), (.free, 2), (.free, 3), (.take, 4), (.free, 5), (.take, 7), (.step, 6), (.step, 8), (.free, 9), (.late, 10)] _ (by kernel_rfl) (by kernel_rfl) (by kernel_rfl) (by kernel_rfl) (by decide) rfl (fun _ _ _ _ _ h => h) ?_
      simp only [List.filterMap_cons, List.filterMap_nil, List.getElem?_toArray, List.getElem?_cons_zero, List.getElem?_cons_succ, Option.map_some]
      iterate 4
        first
          | (refine mv_free ?_ (Or.inl ⟨by rfl, ?_⟩) (⟨c3, c4, c5, c6, c7, c8, c9, c10, c11, d0, d1, d2⟩) ?_
             rotate_left 1
             · intro u
               go_simp
               try simp only [d1]
               try simp only [d2]
               try simp only [d3]
               try with_reducible rfl
             simp only [Act.put, List.setIfInBounds_toArray, List.set_cons_zero, List.set_cons_succ])
          | (refine mv_free _ (Or.inr ⟨by rfl, rfl⟩) (⟨c3, c4, c5, c6, c7, c8, c9, c10, c11, d0, d1, d2⟩) ?_
             simp only [Act.put, List.setIfInBounds_toArray, List.set_cons_zero, List.set_cons_succ])
      iterate 1
        first
          | (refine mv_take ?_ (Or.inl ⟨by rfl, ?_⟩) (⟨c3, c4, c5, c6, c7, c8, c9, c10, c11, d0, d1, d2⟩) ?_
             rotate_left 1
             · intro u hu
               (try dsimp only at hu)
               go_simp
               try with_reducible rfl
             simp only [Act.put, List.setIfInBounds_toArray, List.set_cons_zero, List.set_cons_succ])
          | (refine mv_take _ (Or.inr ⟨by rfl, rfl⟩) (⟨c3, c4, c5, c6, c7, c8, c9, c10, c11, d0, d1, d2⟩) ?_
             simp only [Act.put, List.setIfInBounds_toArray, List.set_cons_zero, List.set_cons_succ])
      iterate 1
        first
          | (refine mv_free ?_ (Or.inl ⟨by rfl, ?_⟩) (⟨c3, c4, c5, c6, c7, c8, c9, c10, c11, d0, d1, d2⟩) ?_
             rotate_left 1
             · intro u
               go_simp
               try simp only [d1]
               try simp only [d2]
               try simp only [d3]
               try with_reducible rfl
             simp only [Act.put, List.setIfInBounds_toArray, List.set_cons_zero, List.set_cons_succ])
          | (refine mv_free _ (Or.inr ⟨by rfl, rfl⟩) (⟨c3, c4, c5, c6, c7, c8, c9, c10, c11, d0, d1, d2⟩) ?_
             simp only [Act.put, List.setIfInBounds_toArray, List.set_cons_zero, List.set_cons_succ])
      iterate 1
        first
          | (refine mv_take ?_ (Or.inl ⟨by rfl, ?_⟩) (⟨c3, c4, c5, c6, c7, c8, c9, c10, c11, d0, d1, d2⟩) ?_
             rotate_left 1
             · intro u hu
               (try dsimp only at hu)
               go_simp
               try with_reducible rfl
             simp only [Act.put, List.setIfInBounds_toArray, List.set_cons_zero, List.set_cons_succ])
          | (refine mv_take _ (Or.inr ⟨by rfl, rfl⟩) (⟨c3, c4, c5, c6, c7, c8, c9, c10, c11, d0, d1, d2⟩) ?_
             simp only [Act.put, List.setIfInBounds_toArray, List.set_cons_zero, List.set_cons_succ])
      refine mv_step (fun K hK => ?_)
      go_simp
      refine (RW0.out _).mono ?_
      rintro e w5 ⟨rfl, hq⟩
      replace KO := Lib.hid (KO.out.drew.bel hq)
      replace KH := Lib.hid (KH.out.drew.bel hq)
      replace KV := Lib.hid (KV.out.drew.bel hq)
      replace KG := Lib.hid (KG.out.drew.bel hq)
      replace BS := Lib.hid ((Beside.as (v' := wr.drew) BS.out rfl rfl rfl rfl).trans (.of_below hq))
      clear hq
      clear c0 f0 c1 f1 c2 f2 c3 f3 c4 f4 c5 f5 c6 f6 c7 f7 c8 f8 c9 f9 c10 f10 c11 f11 c12 f12 c13 f13 c14 f14 d0 l0 d1 l1 d2 l2
      have hh_ := KO.out
      obtain ⟨c0, f0⟩ := hh_.one 0 rfl
      obtain ⟨c1, f1⟩ := hh_.one 1 rfl
      obtain ⟨c2, f2⟩ := hh_.one 2 rfl
      obtain ⟨c3, f3⟩ := hh_.one 3 rfl
      obtain ⟨c4, f4⟩ := hh_.one 4 rfl
      obtain ⟨c5, f5⟩ := hh_.one 5 rfl
      obtain ⟨c6, f6⟩ := hh_.one 6 rfl
      obtain ⟨c7, f7⟩ := hh_.one 7 rfl
      obtain ⟨c8, f8⟩ := hh_.one 8 rfl
      obtain ⟨c9, f9⟩ := hh_.one 9 rfl
      obtain ⟨c10, f10⟩ := hh_.one 10 rfl
      obtain ⟨c11, f11⟩ := hh_.one 11 rfl
      obtain ⟨c12, f12⟩ := hh_.one 12 rfl
      obtain ⟨c13, f13⟩ := hh_.one 13 rfl
      obtain ⟨c14, f14⟩ := hh_.one 14 rfl
      clear hh_
      have hh_ := KH.out
      obtain ⟨d0, l0⟩ := hh_.one 0 rfl
      obtain ⟨d1, l1⟩ := hh_.one 1 rfl
      obtain ⟨d2, l2⟩ := hh_.one 2 rfl
      clear hh_
      go_wp2_with fail
      refine hK.out _ _ _ (fun u hu => hu) (⟨c3, c4, c5, c6, c7, c8, c9, c10, c11, d0, d1, d2⟩) ?_
      clear hK K
      refine mv_step (fun K hK => ?_)
      go_simp
      refine (DV0.out _).mono ?_
      rintro e w6 ⟨rfl, hq⟩
      replace KO := Lib.hid (KO.out.bel hq)
      replace KH := Lib.hid (KH.out.bel hq)
      replace KV := Lib.hid (KV.out.bel hq)
      replace KG := Lib.hid (KG.out.bel hq)
      replace BS := Lib.hid (BS.out.trans (.of_below hq))
      clear hq
      clear c0 f0 c1 f1 c2 f2 c3 f3 c4 f4 c5 f5 c6 f6 c7 f7 c8 f8 c9 f9 c10 f10 c11 f11 c12 f12 c13 f13 c14 f14 d0 l0 d1 l1 d2 l2
      have hh_ := KO.out
      obtain ⟨c0, f0⟩ := hh_.one 0 rfl
      obtain ⟨c1, f1⟩ := hh_.one 1 rfl
      obtain ⟨c2, f2⟩ := hh_.one 2 rfl
      obtain ⟨c3, f3⟩ := hh_.one 3 rfl
      obtain ⟨c4, f4⟩ := hh_.one 4 rfl
      obtain ⟨c5, f5⟩ := hh_.one 5 rfl
      obtain ⟨c6, f6⟩ := hh_.one 6 rfl
      obtain ⟨c7, f7⟩ := hh_.one 7 rfl
      obtain ⟨c8, f8⟩ := hh_.one 8 rfl
      obtain ⟨c9, f9⟩ := hh_.one 9 rfl
      obtain ⟨c10, f10⟩ := hh_.one 10 rfl
      obtain ⟨c11, f11⟩ := hh_.one 11 rfl
      obtain ⟨c12, f12⟩ := hh_.one 12 rfl
      obtain ⟨c13, f13⟩ := hh_.one 13 rfl
      obtain ⟨c14, f14⟩ := hh_.one 14 rfl
      clear hh_
      have hh_ := KH.out
      obtain ⟨d0, l0⟩ := hh_.one 0 rfl
      obtain ⟨d1, l1⟩ := hh_.one 1 rfl
      obtain ⟨d2, l2⟩ := hh_.one 2 rfl
      clear hh_
      obtain ⟨v0, hv0⟩ := vC_some V0 0 0 (by omega)
      have a0 := KV.out.c 0 _ hv0
      have b0 := KV.out.f 0 (by rw [vC_len]; omega)
      go_wp2_with fail
      refine hK.out _ _ _ (fun u hu => hu) (⟨c3, c4, c5, c6, c7, c8, c9, c10, c11, d0, d1, d2⟩) ?_
      clear hK K
      iterate 1
        first
          | (refine mv_free ?_ (Or.inl ⟨by rfl, ?_⟩) (⟨c3, c4, c5, c6, c7, c8, c9, c10, c11, d0, d1, d2⟩) ?_
             rotate_left 1
             · intro u
               go_simp
               try simp only [d1]
               try simp only [d2]
               try simp only [d3]
               try with_reducible rfl
             simp only [Act.put, List.setIfInBounds_toArray, List.set_cons_zero, List.set_cons_succ])
          | (refine mv_free _ (Or.inr ⟨by rfl, rfl⟩) (⟨c3, c4, c5, c6, c7, c8, c9, c10, c11, d0, d1, d2⟩) ?_
             simp only [Act.put, List.setIfInBounds_toArray, List.set_cons_zero, List.set_cons_succ])
      refine mv_late (fun K hK => ?_)
      go_simp
      refine hK.out (fun _ => True) _ _ ?_
      clear hK K
      refine mv_done ?_
      obtain ⟨w7, ew7⟩ : ∃ w7, w7 = w6.setCell ⟨vb, 0, none⟩ (.int .i64 (V0 0)) := ⟨_, rfl⟩
      obtain ⟨k7, b7⟩ := (((HB.start KV.out).set 0 (.int .i64 (V0 0)) (by rw [vC_len]; omega)).is (vC_set V0 0 (by omega))).fin (v' := w7) (by rw [ew7]) (by rw [ew7]) (by rw [ew7]) (by rw [ew7])
      have bs7 : Beside ob w w7 := by rw [ew7]; exact Beside.of_new BS.out (p := ⟨vb, 0, none⟩) vl1 _
      replace KO := Lib.hid (KO.out.beside b7 (by omega))
      replace KH := Lib.hid (KH.out.beside b7 (by omega))
      replace KG := Lib.hid (KG.out.beside b7 (by omega))
      replace KV := Lib.hid k7
      replace BS := Lib.hid bs7
      rw [← ew7]
      replace ew7 := Lib.hid ew7
      clear k7 b7 bs7 a0 b0 hv0 v0
      clear c0 f0 c1 f1 c2 f2 c3 f3 c4 f4 c5 f5 c6 f6 c7 f7 c8 f8 c9 f9 c10 f10 c11 f11 c12 f12 c13 f13 c14 f14 d0 l0 d1 l1 d2 l2
      go_wp2
      go_roundw
      case rel => exact ⟨0 + 1, by omega, by first | rfl | go_num, KO, KH, KV, KG, BS⟩
      case measure => simp [intOf]
    · have kk : ((1 : Nat) : Int) = 1 := rfl
      have hh_ := KO.out
      obtain ⟨c0, f0⟩ := hh_.one 0 rfl
      obtain ⟨c1, f1⟩ := hh_.one 1 rfl
      obtain ⟨c2, f2⟩ := hh_.one 2 rfl
      obtain ⟨c3, f3⟩ := hh_.one 3 rfl
      obtain ⟨c4, f4⟩ := hh_.one 4 rfl
      obtain ⟨c5, f5⟩ := hh_.one 5 rfl
      obtain ⟨c6, f6⟩ := hh_.one 6 rfl
      obtain ⟨c7, f7⟩ := hh_.one 7 rfl
      obtain ⟨c8, f8⟩ := hh_.one 8 rfl
      obtain ⟨c9, f9⟩ := hh_.one 9 rfl
      obtain ⟨c10, f10⟩ := hh_.one 10 rfl
      obtain ⟨c11, f11⟩ := hh_.one 11 rfl
      obtain ⟨c12, f12⟩ := hh_.one 12 rfl
      obtain ⟨c13, f13⟩ := hh_.one 13 rfl
      obtain ⟨c14, f14⟩ := hh_.one 14 rfl
      clear hh_
      have hh_ := KH.out
      obtain ⟨d0, l0⟩ := hh_.one 0 rfl
      obtain ⟨d1, l1⟩ := hh_.one 1 rfl
      obtain ⟨d2, l2⟩ := hh_.one 2 rfl
      clear hh_
      go_wp2_with fail
      refine region_moves (fun u => u.cell? ⟨ob, 3, none⟩ = some (.int .i64 (P 0)) ∧ u.cell? ⟨ob, 4, none⟩ = some (.int .i64 (P 1)) ∧ u.cell? ⟨ob, 5, none⟩ = some (.int .i64 (P 2)) ∧ u.cell? ⟨ob, 6, none⟩ = some (.int .i64 (P 3)) ∧ u.cell? ⟨ob, 7, none⟩ = some (.int .i64 (P 4)) ∧ u.cell? ⟨ob, 8, none⟩ = some (.int .i64 (P 5)) ∧ u.cell? ⟨ob, 9, none⟩ = some (.int .i64 (P 6)) ∧ u.cell? ⟨ob, 10, none⟩ = some (.int .i64 (P 7)) ∧ u.cell? ⟨ob, 11, none⟩ = some (.int .i64 (P 8)) ∧ u.cell? ⟨w.heap.size, 0, none⟩ = some (.int .i64 (H 0)) ∧ u.cell? ⟨w.heap.size, 1, none⟩ = some (.int .i64 (H 1)) ∧ u.cell? ⟨w.heap.size, 2, none⟩ = some (.int .i64 (H 2))) [(10, [(9, 10), (8, 10), (0, 10), (1, 10), (2, 10), (3, 10), (4, 10), (5, 10), (6, 10), (7, 10)])] [(.free, 0), (.free, 1), (.free, 2), (.free, 3), (.take, 4), (.free, 5), (.take, 7), (.step, 6), (.step, 8), (.free, 9), (.late, 10)] _ (by kernel_rfl) (by kernel_rfl) (by kernel_rfl) (by kernel_rfl) (by decide) rfl (fun _ _ _ _ _ h => h) ?_
      simp only [List.filterMap_cons, List.filterMap_nil, List.getElem?_toArray, List.getElem?_cons_zero, List.getElem?_cons_succ, Option.map_some]
      iterate 4
        first
          | (refine mv_free ?_ (Or.inl ⟨by rfl, ?_⟩) (⟨c3, c4, c5, c6, c7, c8, c9, c10, c11, d0, d1, d2⟩) ?_
             rotate_left 1
             · intro u
               go_simp
               try simp only [d1]
               try simp only [d2]
               try simp only [d3]
               try with_reducible rfl
             simp only [Act.put, List.setIfInBounds_toArray, List.set_cons_zero, List.set_cons_succ])
          | (refine mv_free _ (Or.inr ⟨by rfl, rfl⟩) (⟨c3, c4, c5, c6, c7, c8, c9, c10, c11, d0, d1, d2⟩) ?_
             simp only [Act.put, List.setIfInBounds_toArray, List.set_cons_zero, List.set_cons_succ])
      iterate 1
        first
          | (refine mv_take ?_ (Or.inl ⟨by rfl, ?_⟩) (⟨c3, c4, c5, c6, c7, c8, c9, c10, c11, d0, d1, d2⟩) ?_
             rotate_left 1
             · intro u hu
               (try dsimp only at hu)
               go_simp
               try with_reducible rfl
             simp only [Act.put, List.setIfInBounds_toArray, List.set_cons_zero, List.set_cons_succ])
          | (refine mv_take _ (Or.inr ⟨by rfl, rfl⟩) (⟨c3, c4, c5, c6, c7, c8, c9, c10, c11, d0, d1, d2⟩) ?_
             simp only [Act.put, List.setIfInBounds_toArray, List.set_cons_zero, List.set_cons_succ])
      iterate 1
        first
          | (refine mv_free ?_ (Or.inl ⟨by rfl, ?_⟩) (⟨c3, c4, c5, c6, c7, c8, c9, c10, c11, d0, d1, d2⟩) ?_
             rotate_left 1
             · intro u
               go_simp
               try simp only [d1]
               try simp only [d2]
               try simp only [d3]
               try with_reducible rfl
             simp only [Act.put, List.setIfInBounds_toArray, List.set_cons_zero, List.set_cons_succ])
          | (refine mv_free _ (Or.inr ⟨by rfl, rfl⟩) (⟨c3, c4, c5, c6, c7, c8, c9, c10, c11, d0, d1, d2⟩) ?_
             simp only [Act.put, List.setIfInBounds_toArray, List.set_cons_zero, List.set_cons_succ])
      iterate 1
        first
          | (refine mv_take ?_ (Or.inl ⟨by rfl, ?_⟩) (⟨c3, c4, c5, c6, c7, c8, c9, c10, c11, d0, d1, d2⟩) ?_
             rotate_left 1
             · intro u hu
               (try dsimp only at hu)
               go_simp
               try with_reducible rfl
             simp only [Act.put, List.setIfInBounds_toArray, List.set_cons_zero, List.set_cons_succ])
          | (refine mv_take _ (Or.inr ⟨by rfl, rfl⟩) (⟨c3, c4, c5, c6, c7, c8, c9, c10, c11, d0, d1, d2⟩) ?_
             simp only [Act.put, List.setIfInBounds_toArray, List.set_cons_zero, List.set_cons_succ])
      refine mv_step (fun K hK => ?_)
      go_simp
      refine (RW1.out _).mono ?_
      rintro e w5 ⟨rfl, hq⟩
      replace KO := Lib.hid (KO.out.drew.bel hq)
      replace KH := Lib.hid (KH.out.drew.bel hq)
      replace KV := Lib.hid (KV.out.drew.bel hq)
      replace KG := Lib.hid (KG.out.drew.bel hq)
      replace BS := Lib.hid ((Beside.as (v' := wr.drew) BS.out rfl rfl rfl rfl).trans (.of_below hq))
      clear hq
      clear c0 f0 c1 f1 c2 f2 c3 f3 c4 f4 c5 f5 c6 f6 c7 f7 c8 f8 c9 f9 c10 f10 c11 f11 c12 f12 c13 f13 c14 f14 d0 l0 d1 l1 d2 l2
      have hh_ := KO.out
      obtain ⟨c0, f0⟩ := hh_.one 0 rfl
      obtain ⟨c1, f1⟩ := hh_.one 1 rfl
      obtain ⟨c2, f2⟩ := hh_.one 2 rfl
      obtain ⟨c3, f3⟩ := hh_.one 3 rfl
      obtain ⟨c4, f4⟩ := hh_.one 4 rfl
      obtain ⟨c5, f5⟩ := hh_.one 5 rfl
      obtain ⟨c6, f6⟩ := hh_.one 6 rfl
      obtain ⟨c7, f7⟩ := hh_.one 7 rfl
      obtain ⟨c8, f8⟩ := hh_.one 8 rfl
      obtain ⟨c9, f9⟩ := hh_.one 9 rfl
      obtain ⟨c10, f10⟩ := hh_.one 10 rfl
      obtain ⟨c11, f11⟩ := hh_.one 11 rfl
      obtain ⟨c12, f12⟩ := hh_.one 12 rfl
      obtain ⟨c13, f13⟩ := hh_.one 13 rfl
      obtain ⟨c14, f14⟩ := hh_.one 14 rfl
      clear hh_
      have hh_ := KH.out
      obtain ⟨d0, l0⟩ := hh_.one 0 rfl
      obtain ⟨d1, l1⟩ := hh_.one 1 rfl
      obtain ⟨d2, l2⟩ := hh_.one 2 rfl
      clear hh_
      go_wp2_with fail
      refine hK.out _ _ _ (fun u hu => hu) (⟨c3, c4, c5, c6, c7, c8, c9, c10, c11, d0, d1, d2⟩) ?_
      clear hK K
      refine mv_step (fun K hK => ?_)
      go_simp
      refine (DV1.out _).mono ?_
      rintro e w6 ⟨rfl, hq⟩
      replace KO := Lib.hid (KO.out.bel hq)
      replace KH := Lib.hid (KH.out.bel hq)
      replace KV := Lib.hid (KV.out.bel hq)
      replace KG := Lib.hid (KG.out.bel hq)
      replace BS := Lib.hid (BS.out.trans (.of_below hq))
      clear hq
      clear c0 f0 c1 f1 c2 f2 c3 f3 c4 f4 c5 f5 c6 f6 c7 f7 c8 f8 c9 f9 c10 f10 c11 f11 c12 f12 c13 f13 c14 f14 d0 l0 d1 l1 d2 l2
      have hh_ := KO.out
      obtain ⟨c0, f0⟩ := hh_.one 0 rfl
      obtain ⟨c1, f1⟩ := hh_.one 1 rfl
      obtain ⟨c2, f2⟩ := hh_.one 2 rfl
      obtain ⟨c3, f3⟩ := hh_.one 3 rfl
      obtain ⟨c4, f4⟩ := hh_.one 4 rfl
      obtain ⟨c5, f5⟩ := hh_.one 5 rfl
      obtain ⟨c6, f6⟩ := hh_.one 6 rfl
      obtain ⟨c7, f7⟩ := hh_.one 7 rfl
      obtain ⟨c8, f8⟩ := hh_.one 8 rfl
      obtain ⟨c9, f9⟩ := hh_.one 9 rfl
      obtain ⟨c10, f10⟩ := hh_.one 10 rfl
      obtain ⟨c11, f11⟩ := hh_.one 11 rfl
      obtain ⟨c12, f12⟩ := hh_.one 12 rfl
      obtain ⟨c13, f13⟩ := hh_.one 13 rfl
      obtain ⟨c14, f14⟩ := hh_.one 14 rfl
      clear hh_
      have hh_ := KH.out
      obtain ⟨d0, l0⟩ := hh_.one 0 rfl
      obtain ⟨d1, l1⟩ := hh_.one 1 rfl
      obtain ⟨d2, l2⟩ := hh_.one 2 rfl
      clear hh_
      obtain ⟨v0, hv0⟩ := vC_some V0 1 1 (by omega)
      have a0 := KV.out.c 1 _ hv0
      have b0 := KV.out.f 1 (by rw [vC_len]; omega)
      go_wp2_with fail
      refine hK.out _ _ _ (fun u hu => hu) (⟨c3, c4, c5, c6, c7, c8, c9, c10, c11, d0, d1, d2⟩) ?_
      clear hK K
      iterate 1
        first
          | (refine mv_free ?_ (Or.inl ⟨by rfl, ?_⟩) (⟨c3, c4, c5, c6, c7, c8, c9, c10, c11, d0, d1, d2⟩) ?_
             rotate_left 1
             · intro u
               go_simp
               try simp only [d1]
               try simp only [d2]
               try simp only [d3]
               try with_reducible rfl
             simp only [Act.put, List.setIfInBounds_toArray, List.set_cons_zero, List.set_cons_succ])
          | (refine mv_free _ (Or.inr ⟨by rfl, rfl⟩) (⟨c3, c4, c5, c6, c7, c8, c9, c10, c11, d0, d1, d2⟩) ?_
             simp only [Act.put, List.setIfInBounds_toArray, List.set_cons_zero, List.set_cons_succ])
      refine mv_late (fun K hK => ?_)
      go_simp
      refine hK.out (fun _ => True) _ _ ?_
      clear hK K
      refine mv_done ?_
      obtain ⟨w7, ew7⟩ : ∃ w7, w7 = w6.setCell ⟨vb, 1, none⟩ (.int .i64 (V0 1)) := ⟨_, rfl⟩
      obtain ⟨k7, b7⟩ := (((HB.start KV.out).set 1 (.int .i64 (V0 1)) (by rw [vC_len]; omega)).is (vC_set V0 1 (by omega))).fin (v' := w7) (by rw [ew7]) (by rw [ew7]) (by rw [ew7]) (by rw [ew7])
      have bs7 : Beside ob w w7 := by rw [ew7]; exact Beside.of_new BS.out (p := ⟨vb, 1, none⟩) vl1 _
      replace KO := Lib.hid (KO.out.beside b7 (by omega))
      replace KH := Lib.hid (KH.out.beside b7 (by omega))
      replace KG := Lib.hid (KG.out.beside b7 (by omega))
      replace KV := Lib.hid k7
      replace BS := Lib.hid bs7
      rw [← ew7]
      replace ew7 := Lib.hid ew7
      clear k7 b7 bs7 a0 b0 hv0 v0
      clear c0 f0 c1 f1 c2 f2 c3 f3 c4 f4 c5 f5 c6 f6 c7 f7 c8 f8 c9 f9 c10 f10 c11 f11 c12 f12 c13 f13 c14 f14 d0 l0 d1 l1 d2 l2
      go_wp2
      go_roundw
      case rel => exact ⟨1 + 1, by omega, by first | rfl | go_num, KO, KH, KV, KG, BS⟩
      case measure => simp [intOf]
    · have kk : ((2 : Nat) : Int) = 2 := rfl
      have hh_ := KO.out
      obtain ⟨c0, f0⟩ := hh_.one 0 rfl
      obtain ⟨c1, f1⟩ := hh_.one 1 rfl
      obtain ⟨c2, f2⟩ := hh_.one 2 rfl
      obtain ⟨c3, f3⟩ := hh_.one 3 rfl
      obtain ⟨c4, f4⟩ := hh_.one 4 rfl
      obtain ⟨c5, f5⟩ := hh_.one 5 rfl
      obtain ⟨c6, f6⟩ := hh_.one 6 rfl
      obtain ⟨c7, f7⟩ := hh_.one 7 rfl
      obtain ⟨c8, f8⟩ := hh_.one 8 rfl
      obtain ⟨c9, f9⟩ := hh_.one 9 rfl
      obtain ⟨c10, f10⟩ := hh_.one 10 rfl
      obtain ⟨c11, f11⟩ := hh_.one 11 rfl
      obtain ⟨c12, f12⟩ := hh_.one 12 rfl
      obtain ⟨c13, f13⟩ := hh_.one 13 rfl
      obtain ⟨c14, f14⟩ := hh_.one 14 rfl
      clear hh_
      have hh_ := KH.out
      obtain ⟨d0, l0⟩ := hh_.one 0 rfl
      obtain ⟨d1, l1⟩ := hh_.one 1 rfl
      obtain ⟨d2, l2⟩ := hh_.one 2 rfl
      clear hh_
      go_wp2_with fail
      refine region_moves (fun u => u.cell? ⟨ob, 3, none⟩ = some (.int .i64 (P 0)) ∧ u.cell? ⟨ob, 4, none⟩ = some (.int .i64 (P 1)) ∧ u.cell? ⟨ob, 5, none⟩ = some (.int .i64 (P 2)) ∧ u.cell? ⟨ob, 6, none⟩ = some (.int .i64 (P 3)) ∧ u.cell? ⟨ob, 7, none⟩ = some (.int .i64 (P 4)) ∧ u.cell? ⟨ob, 8, none⟩ = some (.int .i64 (P 5)) ∧ u.cell? ⟨ob, 9, none⟩ = some (.int .i64 (P 6)) ∧ u.cell? ⟨ob, 10, none⟩ = some (.int .i64 (P 7)) ∧ u.cell? ⟨ob, 11, none⟩ = some (.int .i64 (P 8)) ∧ u.cell? ⟨w.heap.size, 0, none⟩ = some (.int .i64 (H 0)) ∧ u.cell? ⟨w.heap.size, 1, none⟩ = some (.int .i64 (H 1)) ∧ u.cell? ⟨w.heap.size, 2, none⟩ = some (.int .i64 (H 2))) [(10, [(9, 10), (8, 10), (0, 10), (1, 10), (2, 10), (3, 10), (4, 10), (5, 10), (6, 10), (7, 10)])] [(.free, 0), (.free, 1), (.free, 2), (.free, 3), (.take, 4), (.free, 5), (.take, 7), (.step, 6), (.step, 8), (.free, 9), (.late, 10)] _ (by kernel_rfl) (by kernel_rfl) (by kernel_rfl) (by kernel_rfl) (by decide) rfl (fun _ _ _ _ _ h => h) ?_
      simp only [List.filterMap_cons, List.filterMap_nil, List.getElem?_toArray, List.getElem?_cons_zero, List.getElem?_cons_succ, Option.map_some]
      iterate 4
        first
          | (refine mv_free ?_ (Or.inl ⟨by rfl, ?_⟩) (⟨c3, c4, c5, c6, c7, c8, c9, c10, c11, d0, d1, d2⟩) ?_
             rotate_left 1
             · intro u
               go_simp
               try simp only [d1]
               try simp only [d2]
               try simp only [d3]
               try with_reducible rfl
             simp only [Act.put, List.setIfInBounds_toArray, List.set_cons_zero, List.set_cons_succ])
          | (refine mv_free _ (Or.inr ⟨by rfl, rfl⟩) (⟨c3, c4, c5, c6, c7, c8, c9, c10, c11, d0, d1, d2⟩) ?_
             simp only [Act.put, List.setIfInBounds_toArray, List.set_cons_zero, List.set_cons_succ])
      iterate 1
        first
          | (refine mv_take ?_ (Or.inl ⟨by rfl, ?_⟩) (⟨c3, c4, c5, c6, c7, c8, c9, c10, c11, d0, d1, d2⟩) ?_
             rotate_left 1
             · intro u hu
               (try dsimp only at hu)
               go_simp
               try with_reducible rfl
             simp only [Act.put, List.setIfInBounds_toArray, List.set_cons_zero, List.set_cons_succ])
          | (refine mv_take _ (Or.inr ⟨by rfl, rfl⟩) (⟨c3, c4, c5, c6, c7, c8, c9, c10, c11, d0, d1, d2⟩) ?_
             simp only [Act.put, List.setIfInBounds_toArray, List.set_cons_zero, List.set_cons_succ])
      iterate 1
        first
          | (refine mv_free ?_ (Or.inl ⟨by rfl, ?_⟩) (⟨c3, c4, c5, c6, c7, c8, c9, c10, c11, d0, d1, d2⟩) ?_
             rotate_left 1
             · intro u
               go_simp
               try simp only [d1]
               try simp only [d2]
               try simp only [d3]
               try with_reducible rfl
             simp only [Act.put, List.setIfInBounds_toArray, List.set_cons_zero, List.set_cons_succ])
          | (refine mv_free _ (Or.inr ⟨by rfl, rfl⟩) (⟨c3, c4, c5, c6, c7, c8, c9, c10, c11, d0, d1, d2⟩) ?_
             simp only [Act.put, List.setIfInBounds_toArray, List.set_cons_zero, List.set_cons_succ])
      iterate 1
        first
          | (refine mv_take ?_ (Or.inl ⟨by rfl, ?_⟩) (⟨c3, c4, c5, c6, c7, c8, c9, c10, c11, d0, d1, d2⟩) ?_
             rotate_left 1
             · intro u hu
               (try dsimp only at hu)
               go_simp
               try with_reducible rfl
             simp only [Act.put, List.setIfInBounds_toArray, List.set_cons_zero, List.set_cons_succ])
          | (refine mv_take _ (Or.inr ⟨by rfl, rfl⟩) (⟨c3, c4, c5, c6, c7, c8, c9, c10, c11, d0, d1, d2⟩) ?_
             simp only [Act.put, List.setIfInBounds_toArray, List.set_cons_zero, List.set_cons_succ])
      refine mv_step (fun K hK => ?_)
      go_simp
      refine (RW2.out _).mono ?_
      rintro e w5 ⟨rfl, hq⟩
      replace KO := Lib.hid (KO.out.drew.bel hq)
      replace KH := Lib.hid (KH.out.drew.bel hq)
      replace KV := Lib.hid (KV.out.drew.bel hq)
      replace KG := Lib.hid (KG.out.drew.bel hq)
      replace BS := Lib.hid ((Beside.as (v' := wr.drew) BS.out rfl rfl rfl rfl).trans (.of_below hq))
      clear hq
      clear c0 f0 c1 f1 c2 f2 c3 f3 c4 f4 c5 f5 c6 f6 c7 f7 c8 f8 c9 f9 c10 f10 c11 f11 c12 f12 c13 f13 c14 f14 d0 l0 d1 l1 d2 l2
      have hh_ := KO.out
      obtain ⟨c0, f0⟩ := hh_.one 0 rfl
      obtain ⟨c1, f1⟩ := hh_.one 1 rfl
      obtain ⟨c2, f2⟩ := hh_.one 2 rfl
      obtain ⟨c3, f3⟩ := hh_.one 3 rfl
      obtain ⟨c4, f4⟩ := hh_.one 4 rfl
      obtain ⟨c5, f5⟩ := hh_.one 5 rfl
      obtain ⟨c6, f6⟩ := hh_.one 6 rfl
      obtain ⟨c7, f7⟩ := hh_.one 7 rfl
      obtain ⟨c8, f8⟩ := hh_.one 8 rfl
      obtain ⟨c9, f9⟩ := hh_.one 9 rfl
      obtain ⟨c10, f10⟩ := hh_.one 10 rfl
      obtain ⟨c11, f11⟩ := hh_.one 11 rfl
      obtain ⟨c12, f12⟩ := hh_.one 12 rfl
      obtain ⟨c13, f13⟩ := hh_.one 13 rfl
      obtain ⟨c14, f14⟩ := hh_.one 14 rfl
      clear hh_
      have hh_ := KH.out
      obtain ⟨d0, l0⟩ := hh_.one 0 rfl
      obtain ⟨d1, l1⟩ := hh_.one 1 rfl
      obtain ⟨d2, l2⟩ := hh_.one 2 rfl
      clear hh_
      go_wp2_with fail
      refine hK.out _ _ _ (fun u hu => hu) (⟨c3, c4, c5, c6, c7, c8, c9, c10, c11, d0, d1, d2⟩) ?_
      clear hK K
      refine mv_step (fun K hK => ?_)
      go_simp
      refine (DV2.out _).mono ?_
      rintro e w6 ⟨rfl, hq⟩
      replace KO := Lib.hid (KO.out.bel hq)
      replace KH := Lib.hid (KH.out.bel hq)
      replace KV := Lib.hid (KV.out.bel hq)
      replace KG := Lib.hid (KG.out.bel hq)
      replace BS := Lib.hid (BS.out.trans (.of_below hq))
      clear hq
      clear c0 f0 c1 f1 c2 f2 c3 f3 c4 f4 c5 f5 c6 f6 c7 f7 c8 f8 c9 f9 c10 f10 c11 f11 c12 f12 c13 f13 c14 f14 d0 l0 d1 l1 d2 l2
      have hh_ := KO.out
      obtain ⟨c0, f0⟩ := hh_.one 0 rfl
      obtain ⟨c1, f1⟩ := hh_.one 1 rfl
      obtain ⟨c2, f2⟩ := hh_.one 2 rfl
      obtain ⟨c3, f3⟩ := hh_.one 3 rfl
      obtain ⟨c4, f4⟩ := hh_.one 4 rfl
      obtain ⟨c5, f5⟩ := hh_.one 5 rfl
      obtain ⟨c6, f6⟩ := hh_.one 6 rfl
      obtain ⟨c7, f7⟩ := hh_.one 7 rfl
      obtain ⟨c8, f8⟩ := hh_.one 8 rfl
      obtain ⟨c9, f9⟩ := hh_.one 9 rfl
      obtain ⟨c10, f10⟩ := hh_.one 10 rfl
      obtain ⟨c11, f11⟩ := hh_.one 11 rfl
      obtain ⟨c12, f12⟩ := hh_.one 12 rfl
      obtain ⟨c13, f13⟩ := hh_.one 13 rfl
      obtain ⟨c14, f14⟩ := hh_.one 14 rfl
      clear hh_
      have hh_ := KH.out
      obtain ⟨d0, l0⟩ := hh_.one 0 rfl
      obtain ⟨d1, l1⟩ := hh_.one 1 rfl
      obtain ⟨d2, l2⟩ := hh_.one 2 rfl
      clear hh_
      obtain ⟨v0, hv0⟩ := vC_some V0 2 2 (by omega)
      have a0 := KV.out.c 2 _ hv0
      have b0 := KV.out.f 2 (by rw [vC_len]; omega)
      go_wp2_with fail
      refine hK.out _ _ _ (fun u hu => hu) (⟨c3, c4, c5, c6, c7, c8, c9, c10, c11, d0, d1, d2⟩) ?_
      clear hK K
      iterate 1
        first
          | (refine mv_free ?_ (Or.inl ⟨by rfl, ?_⟩) (⟨c3, c4, c5, c6, c7, c8, c9, c10, c11, d0, d1, d2⟩) ?_
             rotate_left 1
             · intro u
               go_simp
               try simp only [d1]
               try simp only [d2]
               try simp only [d3]
               try with_reducible rfl
             simp only [Act.put, List.setIfInBounds_toArray, List.set_cons_zero, List.set_cons_succ])
          | (refine mv_free _ (Or.inr ⟨by rfl, rfl⟩) (⟨c3, c4, c5, c6, c7, c8, c9, c10, c11, d0, d1, d2⟩) ?_
             simp only [Act.put, List.setIfInBounds_toArray, List.set_cons_zero, List.set_cons_succ])
      refine mv_late (fun K hK => ?_)
      go_simp
      refine hK.out (fun _ => True) _ _ ?_
      clear hK K
      refine mv_done ?_
      obtain ⟨w7, ew7⟩ : ∃ w7, w7 = w6.setCell ⟨vb, 2, none⟩ (.int .i64 (V0 2)) := ⟨_, rfl⟩
      obtain ⟨k7, b7⟩ := (((HB.start KV.out).set 2 (.int .i64 (V0 2)) (by rw [vC_len]; omega)).is (vC_set V0 2 (by omega))).fin (v' := w7) (by rw [ew7]) (by rw [ew7]) (by rw [ew7]) (by rw [ew7])
      have bs7 : Beside ob w w7 := by rw [ew7]; exact Beside.of_new BS.out (p := ⟨vb, 2, none⟩) vl1 _
      replace KO := Lib.hid (KO.out.beside b7 (by omega))
      replace KH := Lib.hid (KH.out.beside b7 (by omega))
      replace KG := Lib.hid (KG.out.beside b7 (by omega))
      replace KV := Lib.hid k7
      replace BS := Lib.hid bs7
      rw [← ew7]
      replace ew7 := Lib.hid ew7
      clear k7 b7 bs7 a0 b0 hv0 v0
      clear c0 f0 c1 f1 c2 f2 c3 f3 c4 f4 c5 f5 c6 f6 c7 f7 c8 f8 c9 f9 c10 f10 c11 f11 c12 f12 c13 f13 c14 f14 d0 l0 d1 l1 d2 l2
      go_wp2
      go_roundw
      case rel => exact ⟨2 + 1, by omega, by first | rfl | go_num, KO, KH, KV, KG, BS⟩
      case measure => simp [intOf]
    · have kk : ((3 : Nat) : Int) = 3 := rfl
      rw [vC_all] at KV
      have hh_ := KH.out
      obtain ⟨d0, l0⟩ := hh_.one 0 rfl
      obtain ⟨d1, l1⟩ := hh_.one 1 rfl
      obtain ⟨d2, l2⟩ := hh_.one 2 rfl
      clear hh_
      have hh_ := KV.out
      obtain ⟨a0, m0⟩ := hh_.one 0 rfl
      obtain ⟨a1, m1⟩ := hh_.one 1 rfl
      obtain ⟨a2, m2⟩ := hh_.one 2 rfl
      clear hh_
      go_wp2_with fail
      refine (DS.out _).mono ?_
      rintro e w5 ⟨rfl, hq⟩
      replace KO := Lib.hid (KO.out.bel hq)
      replace KH := Lib.hid (KH.out.bel hq)
      replace KV := Lib.hid (KV.out.bel hq)
      replace KG := Lib.hid (KG.out.bel hq)
      replace BS := Lib.hid (BS.out.trans (.of_below hq))
      clear hq d0 l0 d1 l1 d2 l2 a0 m0 a1 m1 a2 m2
      go_wp2_with fail
      rw [show KeC X P g tk rf = KeC (kXq X X2 0) P g tk rf by rw [kXq_zero]] at KO
      generalize wr = wz at *
      go_loopw [14] (fun i u => ∃ k : Nat, k ≤ 3 ∧ i = .int .i64 (k : Int) ∧ Hid (Held ob (KeC (kXq X X2 k) P g tk rf) u) ∧ Hid (Held w.heap.size [.int .i64 (H 0), .int .i64 (H 1), .int .i64 (H 2)] u) ∧ Hid (Held vb [.int .i64 (V0 0), .int .i64 (V0 1), .int .i64 (V0 2)] u) ∧ Hid (Held (vb + 1) (vC G k) u) ∧ Hid (Beside ob w u)) (fun i _ => 3 - (intOf i).toNat)
      case atStart => exact ⟨0, by omega, rfl, KO, KH, KV, KG, BS⟩
      case round =>
        clear KO KH KV KG BS kk
        obtain ⟨k, hk, rfl, KO, KH, KV, KG, BS⟩ := hrel
        rcases (show k = 0 ∨ k = 1 ∨ k = 2 ∨ k = 3 by omega) with rfl | rfl | rfl | rfl
        · have kk : ((0 : Nat) : Int) = 0 := rfl
          have a0 : wr.cell? ⟨vb, 0, none⟩ = some (.int .i64 (V0 0)) := KV.out.c 0 _ rfl
          have f1_ := F1.out 0
          have F1k := Lib.hid f1_
          have c1_ := C1.out 0
          have C1k := Lib.hid c1_
          clear f1_ c1_
          go_wp2_with fail
          refine (F1k.out _).mono ?_
          rintro e w6 ⟨rfl, hq⟩
          replace KO := Lib.hid (KO.out.bel hq)
          replace KH := Lib.hid (KH.out.bel hq)
          replace KV := Lib.hid (KV.out.bel hq)
          replace KG := Lib.hid (KG.out.bel hq)
          replace BS := Lib.hid (BS.out.trans (.of_below hq))
          clear hq a0
          go_wp2_with fail
          refine (C1k.out _).mono ?_
          rintro e w' ⟨rfl, rfl⟩
          obtain ⟨v0, hv0⟩ := vC_some G 0 0 (by omega)
          have a0 := KG.out.c 0 _ hv0
          have b0 := KG.out.f 0 (by rw [vC_len]; omega)
          go_upto_region 19 with (fail)
          obtain ⟨w7, ew7⟩ : ∃ w7, w7 = w6.setCell ⟨vb + 1, 0, none⟩ (.int .i64 (G 0)) := ⟨_, rfl⟩
          obtain ⟨k7, b7⟩ := (((HB.start KG.out).set 0 (.int .i64 (G 0)) (by rw [vC_len]; omega)).is (vC_set G 0 (by omega))).fin (v' := w7) (by rw [ew7]) (by rw [ew7]) (by rw [ew7]) (by rw [ew7])
          have bs7 : Beside ob w w7 := by rw [ew7]; exact Beside.of_new BS.out (p := ⟨vb + 1, 0, none⟩) (by show w.heap.size < vb + 1; omega) _
          replace KO := Lib.hid (KO.out.beside b7 (by omega))
          replace KH := Lib.hid (KH.out.beside b7 (by omega))
          replace KV := Lib.hid (KV.out.beside b7 (by omega))
          replace KG := Lib.hid k7
          replace BS := Lib.hid bs7
          rw [← ew7]
          replace ew7 := Lib.hid ew7
          clear k7 b7 bs7 a0 b0 hv0 v0 F1k C1k
          have c0 : w7.cell? ⟨ob, 0, none⟩ = some (.int .i64 (X 0)) := (KO.out.c 0 _ rfl).trans (by rw [kXq_at0])
          have d0 : w7.cell? ⟨vb + 1, 0, none⟩ = some (.int .i64 (G 0)) := KG.out.c 0 _ (by rw [vC_at (by omega)]; rfl)
          have e3 : (0 : Int) < 3 := by omega
          go_wp2_with fail
          refine region_moves (fun u => u.cell? ⟨ob, 0, none⟩ = some (.int .i64 (X 0)) ∧ u.cell? ⟨vb + 1, 0, none⟩ = some (.int .i64 (G 0))) [(18, [(17, 18), (14, 18), (0, 18), (1, 18), (2, 18), (3, 18), (4, 18), (5, 18), (6, 18), (7, 18), (8, 18), (9, 18), (10, 18), (11, 18), (12, 18), (13, 18), (16, 17), (15, 16)])] [(.free, 0), (.free, 1), (.free, 2), (.free, 3), (.free, 4), (.free, 5), (.free, 6), (.take, 7), (.free, 8), (.free, 9), (.take, 10), (.free, 11), (.free, 15), (.free, 16), (.step, 12), (.step, 13), (.step, 14), (.free, 17), (.late, 18)] _ (by kernel_rfl) (by kernel_rfl) (by kernel_rfl) (by kernel_rfl) (by decide) rfl (fun _ _ _ _ _ h => h) ?_
          simp only [List.filterMap_cons, List.filterMap_nil, List.getElem?_toArray, List.getElem?_cons_zero, List.getElem?_cons_succ, Option.map_some]
          iterate 7
            first
              | (refine mv_free ?_ (Or.inl ⟨by rfl, ?_⟩) (⟨c0, d0⟩) ?_
                 rotate_left 1
                 · intro u
                   go_simp
                   try simp only [d1]
                   try simp only [d2]
                   try simp only [d3]
                   try with_reducible rfl
                 simp only [Act.put, List.setIfInBounds_toArray, List.set_cons_zero, List.set_cons_succ])
              | (refine mv_free _ (Or.inr ⟨by rfl, rfl⟩) (⟨c0, d0⟩) ?_
                 simp only [Act.put, List.setIfInBounds_toArray, List.set_cons_zero, List.set_cons_succ])
          iterate 1
            first
              | (refine mv_take ?_ (Or.inl ⟨by rfl, ?_⟩) (⟨c0, d0⟩) ?_
                 rotate_left 1
                 · intro u hu
                   (try dsimp only at hu)
                   go_simp
                   try with_reducible rfl
                 simp only [Act.put, List.setIfInBounds_toArray, List.set_cons_zero, List.set_cons_succ])
              | (refine mv_take _ (Or.inr ⟨by rfl, rfl⟩) (⟨c0, d0⟩) ?_
                 simp only [Act.put, List.setIfInBounds_toArray, List.set_cons_zero, List.set_cons_succ])
          iterate 2
            first
              | (refine mv_free ?_ (Or.inl ⟨by rfl, ?_⟩) (⟨c0, d0⟩) ?_
                 rotate_left 1
                 · intro u
                   go_simp
                   try simp only [d1]
                   try simp only [d2]
                   try simp only [d3]
                   try with_reducible rfl
                 simp only [Act.put, List.setIfInBounds_toArray, List.set_cons_zero, List.set_cons_succ])
              | (refine mv_free _ (Or.inr ⟨by rfl, rfl⟩) (⟨c0, d0⟩) ?_
                 simp only [Act.put, List.setIfInBounds_toArray, List.set_cons_zero, List.set_cons_succ])
          iterate 1
            first
              | (refine mv_take ?_ (Or.inl ⟨by rfl, ?_⟩) (⟨c0, d0⟩) ?_
                 rotate_left 1
                 · intro u hu
                   (try dsimp only at hu)
                   go_simp
                   try with_reducible rfl
                 simp only [Act.put, List.setIfInBounds_toArray, List.set_cons_zero, List.set_cons_succ])
              | (refine mv_take _ (Or.inr ⟨by rfl, rfl⟩) (⟨c0, d0⟩) ?_
                 simp only [Act.put, List.setIfInBounds_toArray, List.set_cons_zero, List.set_cons_succ])
          iterate 3
            first
              | (refine mv_free ?_ (Or.inl ⟨by rfl, ?_⟩) (⟨c0, d0⟩) ?_
                 rotate_left 1
                 · intro u
                   go_simp
                   try simp only [d1]
                   try simp only [d2]
                   try simp only [d3]
                   try with_reducible rfl
                 simp only [Act.put, List.setIfInBounds_toArray, List.set_cons_zero, List.set_cons_succ])
              | (refine mv_free _ (Or.inr ⟨by rfl, rfl⟩) (⟨c0, d0⟩) ?_
                 simp only [Act.put, List.setIfInBounds_toArray, List.set_cons_zero, List.set_cons_succ])
          refine mv_step (fun K hK => ?_)
          go_simp
          refine (T1.out 0 _).mono ?_
          rintro e w8 ⟨rfl, hq⟩
          replace KO := Lib.hid (KO.out.drew.bel hq)
          replace KH := Lib.hid (KH.out.drew.bel hq)
          replace KV := Lib.hid (KV.out.drew.bel hq)
          replace KG := Lib.hid (KG.out.drew.bel hq)
          replace BS := Lib.hid ((Beside.as (v' := w7.drew) BS.out rfl rfl rfl rfl).trans (.of_below hq))
          clear hq c0 d0
          have c0 : w8.cell? ⟨ob, 0, none⟩ = some (.int .i64 (X 0)) := (KO.out.c 0 _ rfl).trans (by rw [kXq_at0])
          have d0 : w8.cell? ⟨vb + 1, 0, none⟩ = some (.int .i64 (G 0)) := KG.out.c 0 _ (by rw [vC_at (by omega)]; rfl)
          go_wp2_with fail
          refine hK.out (fun u => u = w8) _ _ (fun u hu => by subst hu; exact ⟨c0, d0⟩) (rfl) ?_
          clear hK K
          refine mv_step (fun K hK => ?_)
          go_simp
          refine (S1.out 0 _).mono ?_
          rintro e w' ⟨rfl, rfl⟩
          go_wp2_with fail
          refine hK.out _ _ _ (fun u hu => hu) (rfl) ?_
          clear hK K
          refine mv_step (fun K hK => ?_)
          go_simp
          refine (C2.out 0 _).mono ?_
          rintro e w' ⟨rfl, rfl⟩
          have f0 := KO.out.f 0 (by simp [KeC])
          go_wp2_with fail
          refine hK.out _ _ _ (fun u hu => hu) (rfl) ?_
          clear hK K
          iterate 1
            first
              | (refine mv_free ?_ (Or.inl ⟨by rfl, ?_⟩) (rfl) ?_
                 rotate_left 1
                 · intro u
                   go_simp
                   try simp only [d1]
                   try simp only [d2]
                   try simp only [d3]
                   try with_reducible rfl
                 simp only [Act.put, List.setIfInBounds_toArray, List.set_cons_zero, List.set_cons_succ])
              | (refine mv_free _ (Or.inr ⟨by rfl, rfl⟩) (rfl) ?_
                 simp only [Act.put, List.setIfInBounds_toArray, List.set_cons_zero, List.set_cons_succ])
          refine mv_late (fun K hK => ?_)
          go_simp
          refine hK.out (fun _ => True) _ _ ?_
          clear hK K
          refine mv_done ?_
          obtain ⟨w9, ew9⟩ : ∃ w9, w9 = w8.setCell ⟨ob, 0, none⟩ (.int .i64 (X2 0)) := ⟨_, rfl⟩
          obtain ⟨k9, b9⟩ := (((HB.start KO.out).set 0 (.int .i64 (X2 0)) (by simp [KeC])).is (kXq_set0 X X2 P g tk rf)).fin (v' := w9) (by rw [ew9]) (by rw [ew9]) (by rw [ew9]) (by rw [ew9])
          replace KH := Lib.hid (KH.out.beside b9 (by omega))
          replace KV := Lib.hid (KV.out.beside b9 (by omega))
          replace KG := Lib.hid (KG.out.beside b9 (by omega))
          replace KO := Lib.hid k9
          replace BS := Lib.hid (BS.out.trans b9)
          rw [← ew9]
          replace ew9 := Lib.hid ew9
          clear k9 b9 c0 d0 f0
          go_wp2
          go_roundw
          case rel => exact ⟨0 + 1, by omega, by first | rfl | go_num, KO, KH, KV, KG, BS⟩
          case measure => simp [intOf]
        · have kk : ((1 : Nat) : Int) = 1 := rfl
          have a0 : wr.cell? ⟨vb, 1, none⟩ = some (.int .i64 (V0 1)) := KV.out.c 1 _ rfl
          have f1_ := F1.out 1
          have F1k := Lib.hid f1_
          have c1_ := C1.out 1
          have C1k := Lib.hid c1_
          clear f1_ c1_
          go_wp2_with fail
          refine (F1k.out _).mono ?_
          rintro e w6 ⟨rfl, hq⟩
          replace KO := Lib.hid (KO.out.bel hq)
          replace KH := Lib.hid (KH.out.bel hq)
          replace KV := Lib.hid (KV.out.bel hq)
          replace KG := Lib.hid (KG.out.bel hq)
          replace BS := Lib.hid (BS.out.trans (.of_below hq))
          clear hq a0
          go_wp2_with fail
          refine (C1k.out _).mono ?_
          rintro e w' ⟨rfl, rfl⟩
          obtain ⟨v0, hv0⟩ := vC_some G 1 1 (by omega)
          have a0 := KG.out.c 1 _ hv0
          have b0 := KG.out.f 1 (by rw [vC_len]; omega)
          go_upto_region 19 with (fail)
          obtain ⟨w7, ew7⟩ : ∃ w7, w7 = w6.setCell ⟨vb + 1, 1, none⟩ (.int .i64 (G 1)) := ⟨_, rfl⟩
          obtain ⟨k7, b7⟩ := (((HB.start KG.out).set 1 (.int .i64 (G 1)) (by rw [vC_len]; omega)).is (vC_set G 1 (by omega))).fin (v' := w7) (by rw [ew7]) (by rw [ew7]) (by rw [ew7]) (by rw [ew7])
          have bs7 : Beside ob w w7 := by rw [ew7]; exact Beside.of_new BS.out (p := ⟨vb + 1, 1, none⟩) (by show w.heap.size < vb + 1; omega) _
          replace KO := Lib.hid (KO.out.beside b7 (by omega))
          replace KH := Lib.hid (KH.out.beside b7 (by omega))
          replace KV := Lib.hid (KV.out.beside b7 (by omega))
          replace KG := Lib.hid k7
          replace BS := Lib.hid bs7
          rw [← ew7]
          replace ew7 := Lib.hid ew7
          clear k7 b7 bs7 a0 b0 hv0 v0 F1k C1k
          have c0 : w7.cell? ⟨ob, 1, none⟩ = some (.int .i64 (X 1)) := (KO.out.c 1 _ rfl).trans (by rw [kXq_at1])
          have d0 : w7.cell? ⟨vb + 1, 1, none⟩ = some (.int .i64 (G 1)) := KG.out.c 1 _ (by rw [vC_at (by omega)]; rfl)
          have e3 : (1 : Int) < 3 := by omega
          go_wp2_with fail
          refine region_moves (fun u => u.cell? ⟨ob, 1, none⟩ = some (.int .i64 (X 1)) ∧ u.cell? ⟨vb + 1, 1, none⟩ = some (.int .i64 (G 1))) [(18, [(17, 18), (14, 18), (0, 18), (1, 18), (2, 18), (3, 18), (4, 18), (5, 18), (6, 18), (7, 18), (8, 18), (9, 18), (10, 18), (11, 18), (12, 18), (13, 18), (16, 17), (15, 16)])] [(.free, 0), (.free, 1), (.free, 2), (.free, 3), (.free, 4), (.free, 5), (.free, 6), (.take, 7), (.free, 8), (.free, 9), (.take, 10), (.free, 11), (.free, 15), (.free, 16), (.step, 12), (.step, 13), (.step, 14), (.free, 17), (.late, 18)] _ (by kernel_rfl) (by kernel_rfl) (by kernel_rfl) (by kernel_rfl) (by decide) rfl (fun _ _ _ _ _ h => h) ?_
          simp only [List.filterMap_cons, List.filterMap_nil, List.getElem?_toArray, List.getElem?_cons_zero, List.getElem?_cons_succ, Option.map_some]
          iterate 7
            first
              | (refine mv_free ?_ (Or.inl ⟨by rfl, ?_⟩) (⟨c0, d0⟩) ?_
                 rotate_left 1
                 · intro u
                   go_simp
                   try simp only [d1]
                   try simp only [d2]
                   try simp only [d3]
                   try with_reducible rfl
                 simp only [Act.put, List.setIfInBounds_toArray, List.set_cons_zero, List.set_cons_succ])
              | (refine mv_free _ (Or.inr ⟨by rfl, rfl⟩) (⟨c0, d0⟩) ?_
                 simp only [Act.put, List.setIfInBounds_toArray, List.set_cons_zero, List.set_cons_succ])
          iterate 1
            first
              | (refine mv_take ?_ (Or.inl ⟨by rfl, ?_⟩) (⟨c0, d0⟩) ?_
                 rotate_left 1
                 · intro u hu
                   (try dsimp only at hu)
                   go_simp
                   try with_reducible rfl
                 simp only [Act.put, List.setIfInBounds_toArray, List.set_cons_zero, List.set_cons_succ])
              | (refine mv_take _ (Or.inr ⟨by rfl, rfl⟩) (⟨c0, d0⟩) ?_
                 simp only [Act.put, List.setIfInBounds_toArray, List.set_cons_zero, List.set_cons_succ])
          iterate 2
            first
              | (refine mv_free ?_ (Or.inl ⟨by rfl, ?_⟩) (⟨c0, d0⟩) ?_
                 rotate_left 1
                 · intro u
                   go_simp
                   try simp only [d1]
                   try simp only [d2]
                   try simp only [d3]
                   try with_reducible rfl
                 simp only [Act.put, List.setIfInBounds_toArray, List.set_cons_zero, List.set_cons_succ])
              | (refine mv_free _ (Or.inr ⟨by rfl, rfl⟩) (⟨c0, d0⟩) ?_
                 simp only [Act.put, List.setIfInBounds_toArray, List.set_cons_zero, List.set_cons_succ])
          iterate 1
            first
              | (refine mv_take ?_ (Or.inl ⟨by rfl, ?_⟩) (⟨c0, d0⟩) ?_
                 rotate_left 1
                 · intro u hu
                   (try dsimp only at hu)
                   go_simp
                   try with_reducible rfl
                 simp only [Act.put, List.setIfInBounds_toArray, List.set_cons_zero, List.set_cons_succ])
              | (refine mv_take _ (Or.inr ⟨by rfl, rfl⟩) (⟨c0, d0⟩) ?_
                 simp only [Act.put, List.setIfInBounds_toArray, List.set_cons_zero, List.set_cons_succ])
          iterate 3
            first
              | (refine mv_free ?_ (Or.inl ⟨by rfl, ?_⟩) (⟨c0, d0⟩) ?_
                 rotate_left 1
                 · intro u
                   go_simp
                   try simp only [d1]
                   try simp only [d2]
                   try simp only [d3]
                   try with_reducible rfl
                 simp only [Act.put, List.setIfInBounds_toArray, List.set_cons_zero, List.set_cons_succ])
              | (refine mv_free _ (Or.inr ⟨by rfl, rfl⟩) (⟨c0, d0⟩) ?_
                 simp only [Act.put, List.setIfInBounds_toArray, List.set_cons_zero, List.set_cons_succ])
          refine mv_step (fun K hK => ?_)
          go_simp
          refine (T1.out 1 _).mono ?_
          rintro e w8 ⟨rfl, hq⟩
          replace KO := Lib.hid (KO.out.drew.bel hq)
          replace KH := Lib.hid (KH.out.drew.bel hq)
          replace KV := Lib.hid (KV.out.drew.bel hq)
          replace KG := Lib.hid (KG.out.drew.bel hq)
          replace BS := Lib.hid ((Beside.as (v' := w7.drew) BS.out rfl rfl rfl rfl).trans (.of_below hq))
          clear hq c0 d0
          have c0 : w8.cell? ⟨ob, 1, none⟩ = some (.int .i64 (X 1)) := (KO.out.c 1 _ rfl).trans (by rw [kXq_at1])
          have d0 : w8.cell? ⟨vb + 1, 1, none⟩ = some (.int .i64 (G 1)) := KG.out.c 1 _ (by rw [vC_at (by omega)]; rfl)
          go_wp2_with fail
          refine hK.out (fun u => u = w8) _ _ (fun u hu => by subst hu; exact ⟨c0, d0⟩) (rfl) ?_
          clear hK K
          refine mv_step (fun K hK => ?_)
          go_simp
          refine (S1.out 1 _).mono ?_
          rintro e w' ⟨rfl, rfl⟩
          go_wp2_with fail
          refine hK.out _ _ _ (fun u hu => hu) (rfl) ?_
          clear hK K
          refine mv_step (fun K hK => ?_)
          go_simp
          refine (C2.out 1 _).mono ?_
          rintro e w' ⟨rfl, rfl⟩
          have f0 := KO.out.f 1 (by simp [KeC])
          go_wp2_with fail
          refine hK.out _ _ _ (fun u hu => hu) (rfl) ?_
          clear hK K
          iterate 1
            first
              | (refine mv_free ?_ (Or.inl ⟨by rfl, ?_⟩) (rfl) ?_
                 rotate_left 1
                 · intro u
                   go_simp
                   try simp only [d1]
                   try simp only [d2]
                   try simp only [d3]
                   try with_reducible rfl
                 simp only [Act.put, List.setIfInBounds_toArray, List.set_cons_zero, List.set_cons_succ])
              | (refine mv_free _ (Or.inr ⟨by rfl, rfl⟩) (rfl) ?_
                 simp only [Act.put, List.setIfInBounds_toArray, List.set_cons_zero, List.set_cons_succ])
          refine mv_late (fun K hK => ?_)
          go_simp
          refine hK.out (fun _ => True) _ _ ?_
          clear hK K
          refine mv_done ?_
          obtain ⟨w9, ew9⟩ : ∃ w9, w9 = w8.setCell ⟨ob, 1, none⟩ (.int .i64 (X2 1)) := ⟨_, rfl⟩
          obtain ⟨k9, b9⟩ := (((HB.start KO.out).set 1 (.int .i64 (X2 1)) (by simp [KeC])).is (kXq_set1 X X2 P g tk rf)).fin (v' := w9) (by rw [ew9]) (by rw [ew9]) (by rw [ew9]) (by rw [ew9])
          replace KH := Lib.hid (KH.out.beside b9 (by omega))
          replace KV := Lib.hid (KV.out.beside b9 (by omega))
          replace KG := Lib.hid (KG.out.beside b9 (by omega))
          replace KO := Lib.hid k9
          replace BS := Lib.hid (BS.out.trans b9)
          rw [← ew9]
          replace ew9 := Lib.hid ew9
          clear k9 b9 c0 d0 f0
          go_wp2
          go_roundw
          case rel => exact ⟨1 + 1, by omega, by first | rfl | go_num, KO, KH, KV, KG, BS⟩
          case measure => simp [intOf]
        · have kk : ((2 : Nat) : Int) = 2 := rfl
          have a0 : wr.cell? ⟨vb, 2, none⟩ = some (.int .i64 (V0 2)) := KV.out.c 2 _ rfl
          have f1_ := F1.out 2
          have F1k := Lib.hid f1_
          have c1_ := C1.out 2
          have C1k := Lib.hid c1_
          clear f1_ c1_
          go_wp2_with fail
          refine (F1k.out _).mono ?_
          rintro e w6 ⟨rfl, hq⟩
          replace KO := Lib.hid (KO.out.bel hq)
          replace KH := Lib.hid (KH.out.bel hq)
          replace KV := Lib.hid (KV.out.bel hq)
          replace KG := Lib.hid (KG.out.bel hq)
          replace BS := Lib.hid (BS.out.trans (.of_below hq))
          clear hq a0
          go_wp2_with fail
          refine (C1k.out _).mono ?_
          rintro e w' ⟨rfl, rfl⟩
          obtain ⟨v0, hv0⟩ := vC_some G 2 2 (by omega)
          have a0 := KG.out.c 2 _ hv0
          have b0 := KG.out.f 2 (by rw [vC_len]; omega)
          go_upto_region 19 with (fail)
          obtain ⟨w7, ew7⟩ : ∃ w7, w7 = w6.setCell ⟨vb + 1, 2, none⟩ (.int .i64 (G 2)) := ⟨_, rfl⟩
          obtain ⟨k7, b7⟩ := (((HB.start KG.out).set 2 (.int .i64 (G 2)) (by rw [vC_len]; omega)).is (vC_set G 2 (by omega))).fin (v' := w7) (by rw [ew7]) (by rw [ew7]) (by rw [ew7]) (by rw [ew7])
          have bs7 : Beside ob w w7 := by rw [ew7]; exact Beside.of_new BS.out (p := ⟨vb + 1, 2, none⟩) (by show w.heap.size < vb + 1; omega) _
          replace KO := Lib.hid (KO.out.beside b7 (by omega))
          replace KH := Lib.hid (KH.out.beside b7 (by omega))
          replace KV := Lib.hid (KV.out.beside b7 (by omega))
          replace KG := Lib.hid k7
          replace BS := Lib.hid bs7
          rw [← ew7]
          replace ew7 := Lib.hid ew7
          clear k7 b7 bs7 a0 b0 hv0 v0 F1k C1k
          have c0 : w7.cell? ⟨ob, 2, none⟩ = some (.int .i64 (X 2)) := (KO.out.c 2 _ rfl).trans (by rw [kXq_at2])
          have d0 : w7.cell? ⟨vb + 1, 2, none⟩ = some (.int .i64 (G 2)) := KG.out.c 2 _ (by rw [vC_at (by omega)]; rfl)
          have e3 : (2 : Int) < 3 := by omega
          go_wp2_with fail
          refine region_moves (fun u => u.cell? ⟨ob, 2, none⟩ = some (.int .i64 (X 2)) ∧ u.cell? ⟨vb + 1, 2, none⟩ = some (.int .i64 (G 2))) [(18, [(17, 18), (14, 18), (0, 18), (1, 18), (2, 18), (3, 18), (4, 18), (5, 18), (6, 18), (7, 18), (8, 18), (9, 18), (10, 18), (11, 18), (12, 18), (13, 18), (16, 17), (15, 16)])] [(.free, 0), (.free, 1), (.free, 2), (.free, 3), (.free, 4), (.free, 5), (.free, 6), (.take, 7), (.free, 8), (.free, 9), (.take, 10), (.free, 11), (.free, 15), (.free, 16), (.step, 12), (.step, 13), (.step, 14), (.free, 17), (.late, 18)] _ (by kernel_rfl) (by kernel_rfl) (by kernel_rfl) (by kernel_rfl) (by decide) rfl (fun _ _ _ _ _ h => h) ?_
          simp only [List.filterMap_cons, List.filterMap_nil, List.getElem?_toArray, List.getElem?_cons_zero, List.getElem?_cons_succ, Option.map_some]
          iterate 7
            first
              | (refine mv_free ?_ (Or.inl ⟨by rfl, ?_⟩) (⟨c0, d0⟩) ?_
                 rotate_left 1
                 · intro u
                   go_simp
                   try simp only [d1]
                   try simp only [d2]
                   try simp only [d3]
                   try with_reducible rfl
                 simp only [Act.put, List.setIfInBounds_toArray, List.set_cons_zero, List.set_cons_succ])
              | (refine mv_free _ (Or.inr ⟨by rfl, rfl⟩) (⟨c0, d0⟩) ?_
                 simp only [Act.put, List.setIfInBounds_toArray, List.set_cons_zero, List.set_cons_succ])
          iterate 1
            first
              | (refine mv_take ?_ (Or.inl ⟨by rfl, ?_⟩) (⟨c0, d0⟩) ?_
                 rotate_left 1
                 · intro u hu
                   (try dsimp only at hu)
                   go_simp
                   try with_reducible rfl
                 simp only [Act.put, List.setIfInBounds_toArray, List.set_cons_zero, List.set_cons_succ])
              | (refine mv_take _ (Or.inr ⟨by rfl, rfl⟩) (⟨c0, d0⟩) ?_
                 simp only [Act.put, List.setIfInBounds_toArray, List.set_cons_zero, List.set_cons_succ])
          iterate 2
            first
              | (refine mv_free ?_ (Or.inl ⟨by rfl, ?_⟩) (⟨c0, d0⟩) ?_
                 rotate_left 1
                 · intro u
                   go_simp
                   try simp only [d1]
                   try simp only [d2]
                   try simp only [d3]
                   try with_reducible rfl
                 simp only [Act.put, List.setIfInBounds_toArray, List.set_cons_zero, List.set_cons_succ])
              | (refine mv_free _ (Or.inr ⟨by rfl, rfl⟩) (⟨c0, d0⟩) ?_
                 simp only [Act.put, List.setIfInBounds_toArray, List.set_cons_zero, List.set_cons_succ])
          iterate 1
            first
              | (refine mv_take ?_ (Or.inl ⟨by rfl, ?_⟩) (⟨c0, d0⟩) ?_
                 rotate_left 1
                 · intro u hu
                   (try dsimp only at hu)
                   go_simp
                   try with_reducible rfl
                 simp only [Act.put, List.setIfInBounds_toArray, List.set_cons_zero, List.set_cons_succ])
              | (refine mv_take _ (Or.inr ⟨by rfl, rfl⟩) (⟨c0, d0⟩) ?_
                 simp only [Act.put, List.setIfInBounds_toArray, List.set_cons_zero, List.set_cons_succ])
          iterate 3
            first
              | (refine mv_free ?_ (Or.inl ⟨by rfl, ?_⟩) (⟨c0, d0⟩) ?_
                 rotate_left 1
                 · intro u
                   go_simp
                   try simp only [d1]
                   try simp only [d2]
                   try simp only [d3]
                   try with_reducible rfl
                 simp only [Act.put, List.setIfInBounds_toArray, List.set_cons_zero, List.set_cons_succ])
              | (refine mv_free _ (Or.inr ⟨by rfl, rfl⟩) (⟨c0, d0⟩) ?_
                 simp only [Act.put, List.setIfInBounds_toArray, List.set_cons_zero, List.set_cons_succ])
          refine mv_step (fun K hK => ?_)
          go_simp
          refine (T1.out 2 _).mono ?_
          rintro e w8 ⟨rfl, hq⟩
          replace KO := Lib.hid (KO.out.drew.bel hq)
          replace KH := Lib.hid (KH.out.drew.bel hq)
          replace KV := Lib.hid (KV.out.drew.bel hq)
          replace KG := Lib.hid (KG.out.drew.bel hq)
          replace BS := Lib.hid ((Beside.as (v' := w7.drew) BS.out rfl rfl rfl rfl).trans (.of_below hq))
          clear hq c0 d0
          have c0 : w8.cell? ⟨ob, 2, none⟩ = some (.int .i64 (X 2)) := (KO.out.c 2 _ rfl).trans (by rw [kXq_at2])
          have d0 : w8.cell? ⟨vb + 1, 2, none⟩ = some (.int .i64 (G 2)) := KG.out.c 2 _ (by rw [vC_at (by omega)]; rfl)
          go_wp2_with fail
          refine hK.out (fun u => u = w8) _ _ (fun u hu => by subst hu; exact ⟨c0, d0⟩) (rfl) ?_
          clear hK K
          refine mv_step (fun K hK => ?_)
          go_simp
          refine (S1.out 2 _).mono ?_
          rintro e w' ⟨rfl, rfl⟩
          go_wp2_with fail
          refine hK.out _ _ _ (fun u hu => hu) (rfl) ?_
          clear hK K
          refine mv_step (fun K hK => ?_)
          go_simp
          refine (C2.out 2 _).mono ?_
          rintro e w' ⟨rfl, rfl⟩
          have f0 := KO.out.f 2 (by simp [KeC])
          go_wp2_with fail
          refine hK.out _ _ _ (fun u hu => hu) (rfl) ?_
          clear hK K
          iterate 1
            first
              | (refine mv_free ?_ (Or.inl ⟨by rfl, ?_⟩) (rfl) ?_
                 rotate_left 1
                 · intro u
                   go_simp
                   try simp only [d1]
                   try simp only [d2]
                   try simp only [d3]
                   try with_reducible rfl
                 simp only [Act.put, List.setIfInBounds_toArray, List.set_cons_zero, List.set_cons_succ])
              | (refine mv_free _ (Or.inr ⟨by rfl, rfl⟩) (rfl) ?_
                 simp only [Act.put, List.setIfInBounds_toArray, List.set_cons_zero, List.set_cons_succ])
          refine mv_late (fun K hK => ?_)
          go_simp
          refine hK.out (fun _ => True) _ _ ?_
          clear hK K
          refine mv_done ?_
          obtain ⟨w9, ew9⟩ : ∃ w9, w9 = w8.setCell ⟨ob, 2, none⟩ (.int .i64 (X2 2)) := ⟨_, rfl⟩
          obtain ⟨k9, b9⟩ := (((HB.start KO.out).set 2 (.int .i64 (X2 2)) (by simp [KeC])).is (kXq_set2 X X2 P g tk rf)).fin (v' := w9) (by rw [ew9]) (by rw [ew9]) (by rw [ew9]) (by rw [ew9])
          replace KH := Lib.hid (KH.out.beside b9 (by omega))
          replace KV := Lib.hid (KV.out.beside b9 (by omega))
          replace KG := Lib.hid (KG.out.beside b9 (by omega))
          replace KO := Lib.hid k9
          replace BS := Lib.hid (BS.out.trans b9)
          rw [← ew9]
          replace ew9 := Lib.hid ew9
          clear k9 b9 c0 d0 f0
          go_wp2
          go_roundw
          case rel => exact ⟨2 + 1, by omega, by first | rfl | go_num, KO, KH, KV, KG, BS⟩
          case measure => simp [intOf]
        · have kk : ((3 : Nat) : Int) = 3 := rfl
          rw [vC_all] at KG
          rw [show KeC (kXq X X2 3) P g tk rf = KeC X2 P g tk rf from kXq_all X X2 P g tk rf] at KO
          have hh_ := KG.out
          obtain ⟨d0, l0⟩ := hh_.one 0 rfl
          obtain ⟨d1, l1⟩ := hh_.one 1 rfl
          obtain ⟨d2, l2⟩ := hh_.one 2 rfl
          clear hh_
          have hh_ := KV.out
          obtain ⟨a0, m0⟩ := hh_.one 0 rfl
          obtain ⟨a1, m1⟩ := hh_.one 1 rfl
          obtain ⟨a2, m2⟩ := hh_.one 2 rfl
          clear hh_
          go_wp2_with fail
          refine (OU.out _).mono ?_
          rintro e w6 ⟨rfl, hq⟩
          replace KO := Lib.hid (KO.out.bel hq)
          replace KH := Lib.hid (KH.out.bel hq)
          replace KV := Lib.hid (KV.out.bel hq)
          replace KG := Lib.hid (KG.out.bel hq)
          replace BS := Lib.hid (BS.out.trans (.of_below hq))
          clear hq d0 l0 d1 l1 d2 l2 a0 m0 a1 m1 a2 m2
          go_upto_region 22 with (fail)
          obtain ⟨qb, eqb⟩ : ∃ qb, qb = w6.heap.size := ⟨_, rfl⟩
          have ql1 : w.heap.size < qb := by rw [eqb]; exact KH.out.lt
          have ql2 : ob < qb := by rw [eqb]; exact KO.out.lt
          have ql3 : vb + 1 < qb := by rw [eqb]; exact KG.out.lt
          obtain ⟨w7, ew7⟩ : ∃ w7, w7 = (w6.alloc (.cells #[.int .i64 (OO 0), .int .i64 (OO 1), .int .i64 (OO 2), .int .i64 (OO 3), .int .i64 (OO 4), .int .i64 (OO 5), .int .i64 (OO 6), .int .i64 (OO 7), .int .i64 (OO 8)] 58)).alloc (.cells #[.int .i64 0, .int .i64 0, .int .i64 0, .int .i64 0, .int .i64 0, .int .i64 0, .int .i64 0, .int .i64 0, .int .i64 0] 58) := ⟨_, rfl⟩
          have KQ := Lib.hid (show Held qb [.int .i64 (OO 0), .int .i64 (OO 1), .int .i64 (OO 2), .int .i64 (OO 3), .int .i64 (OO 4), .int .i64 (OO 5), .int .i64 (OO 6), .int .i64 (OO 7), .int .i64 (OO 8)] w7 by rw [ew7, eqb]; exact (Held.new w6 [.int .i64 (OO 0), .int .i64 (OO 1), .int .i64 (OO 2), .int .i64 (OO 3), .int .i64 (OO 4), .int .i64 (OO 5), .int .i64 (OO 6), .int .i64 (OO 7), .int .i64 (OO 8)] 58).alloc _)
          have KR := Lib.hid (show Held (qb + 1) (mC D 0) w7 by rw [ew7, eqb, mC_zero]; have := Held.new (w6.alloc (.cells #[.int .i64 (OO 0), .int .i64 (OO 1), .int .i64 (OO 2), .int .i64 (OO 3), .int .i64 (OO 4), .int .i64 (OO 5), .int .i64 (OO 6), .int .i64 (OO 7), .int .i64 (OO 8)] 58)) [.int .i64 0, .int .i64 0, .int .i64 0, .int .i64 0, .int .i64 0, .int .i64 0, .int .i64 0, .int .i64 0, .int .i64 0] 58; simpa using this)
          have hq4 : Below w6.heap.size w6 w7 := by rw [ew7]; exact ((Below.refl _ _).alloc (Nat.le_refl _) _).alloc (by simp) _
          replace KO := Lib.hid (KO.out.bel hq4)
          replace KH := Lib.hid (KH.out.bel hq4)
          replace KV := Lib.hid (KV.out.bel hq4)
          replace KG := Lib.hid (KG.out.bel hq4)
          replace BS := Lib.hid (BS.out.trans (.of_below hq4))
          clear hq4
          rw [← ew7, ← eqb]
          replace ew7 := Lib.hid ew7
          replace eqb := Lib.hid eqb
          clear KH KV KG OU
          generalize wr = wy at *
          go_wp2_with fail
          go_loopw [17] (fun i u => ∃ k : Nat, k ≤ 9 ∧ i = .int .i64 (k : Int) ∧ Hid (Held ob (KeC X2 P g tk rf) u) ∧ Hid (Held qb [.int .i64 (OO 0), .int .i64 (OO 1), .int .i64 (OO 2), .int .i64 (OO 3), .int .i64 (OO 4), .int .i64 (OO 5), .int .i64 (OO 6), .int .i64 (OO 7), .int .i64 (OO 8)] u) ∧ Hid (Held (qb + 1) (mC D k) u) ∧ Hid (Beside ob w u)) (fun i _ => 9 - (intOf i).toNat)
          case atStart => exact ⟨0, by omega, rfl, KO, KQ, KR, BS⟩
          case round =>
            clear KO KQ KR BS kk
            obtain ⟨k, hk, rfl, KO, KQ, KR, BS⟩ := hrel
            rcases (show k = 0 ∨ k = 1 ∨ k = 2 ∨ k = 3 ∨ k = 4 ∨ k = 5 ∨ k = 6 ∨ k = 7 ∨ k = 8 ∨ k = 9 by omega) with rfl | rfl | rfl | rfl | rfl | rfl | rfl | rfl | rfl | rfl
            · have kk : ((0 : Nat) : Int) = 0 := rfl
              have c0 : wr.cell? ⟨ob, 3, none⟩ = some (.int .i64 (P 0)) := KO.out.c 3 _ rfl
              have d0 : wr.cell? ⟨qb, 0, none⟩ = some (.int .i64 (OO 0)) := KQ.out.c 0 _ rfl
              have en0 : IntKind.i64.wrap (-(OO 0)) = -(OO 0) := by have := ob1.out 0; exact IntWalk.i64_in _ ⟨by omega, by omega⟩
              have S2k := Lib.hid (S2.out 0)
              have Dk := DD.out 0
              rw [if_pos (by decide)] at Dk
              replace Dk := Lib.hid Dk
              have e9 : (0 : Int) < 9 := by omega
              go_wp2_with fail
              refine region_moves (fun u => u.cell? ⟨ob, 3, none⟩ = some (.int .i64 (P 0)) ∧ u.cell? ⟨qb, 0, none⟩ = some (.int .i64 (OO 0)) ∧ u = wr.drew) [(13, [(12, 13), (11, 13), (0, 13), (1, 13), (2, 13), (3, 13), (4, 13), (5, 13), (6, 13), (7, 13), (8, 13), (9, 13), (10, 13)])] [(.free, 0), (.free, 1), (.free, 2), (.free, 3), (.free, 4), (.free, 5), (.take, 6), (.free, 7), (.free, 8), (.take, 9), (.free, 10), (.step, 11), (.free, 12), (.late, 13)] _ (by kernel_rfl) (by kernel_rfl) (by kernel_rfl) (by kernel_rfl) (by decide) rfl (fun _ _ _ _ _ h => h) ?_
              simp only [List.filterMap_cons, List.filterMap_nil, List.getElem?_toArray, List.getElem?_cons_zero, List.getElem?_cons_succ, Option.map_some]
              iterate 6
                first
                  | (refine mv_free ?_ (Or.inl ⟨by rfl, ?_⟩) (⟨c0, d0, rfl⟩) ?_
                     rotate_left 1
                     · intro u
                       go_simp
                       try simp only [d1]
                       try simp only [d2]
                       try simp only [d3]
                       try with_reducible rfl
                     simp only [Act.put, List.setIfInBounds_toArray, List.set_cons_zero, List.set_cons_succ])
                  | (refine mv_free _ (Or.inr ⟨by rfl, rfl⟩) (⟨c0, d0, rfl⟩) ?_
                     simp only [Act.put, List.setIfInBounds_toArray, List.set_cons_zero, List.set_cons_succ])
              iterate 1
                first
                  | (refine mv_take ?_ (Or.inl ⟨by rfl, ?_⟩) (⟨c0, d0, rfl⟩) ?_
                     rotate_left 1
                     · intro u hu
                       (try dsimp only at hu)
                       go_simp
                       try with_reducible rfl
                     simp only [Act.put, List.setIfInBounds_toArray, List.set_cons_zero, List.set_cons_succ])
                  | (refine mv_take _ (Or.inr ⟨by rfl, rfl⟩) (⟨c0, d0, rfl⟩) ?_
                     simp only [Act.put, List.setIfInBounds_toArray, List.set_cons_zero, List.set_cons_succ])
              iterate 2
                first
                  | (refine mv_free ?_ (Or.inl ⟨by rfl, ?_⟩) (⟨c0, d0, rfl⟩) ?_
                     rotate_left 1
                     · intro u
                       go_simp
                       try simp only [d1]
                       try simp only [d2]
                       try simp only [d3]
                       try with_reducible rfl
                     simp only [Act.put, List.setIfInBounds_toArray, List.set_cons_zero, List.set_cons_succ])
                  | (refine mv_free _ (Or.inr ⟨by rfl, rfl⟩) (⟨c0, d0, rfl⟩) ?_
                     simp only [Act.put, List.setIfInBounds_toArray, List.set_cons_zero, List.set_cons_succ])
              iterate 1
                first
                  | (refine mv_take ?_ (Or.inl ⟨by rfl, ?_⟩) (⟨c0, d0, rfl⟩) ?_
                     rotate_left 1
                     · intro u hu
                       (try dsimp only at hu)
                       go_simp
                       try with_reducible rfl
                     simp only [Act.put, List.setIfInBounds_toArray, List.set_cons_zero, List.set_cons_succ])
                  | (refine mv_take _ (Or.inr ⟨by rfl, rfl⟩) (⟨c0, d0, rfl⟩) ?_
                     simp only [Act.put, List.setIfInBounds_toArray, List.set_cons_zero, List.set_cons_succ])
              iterate 1
                first
                  | (refine mv_free ?_ (Or.inl ⟨by rfl, ?_⟩) (⟨c0, d0, rfl⟩) ?_
                     rotate_left 1
                     · intro u
                       go_simp
                       try simp only [d1]
                       try simp only [d2]
                       try simp only [d3]
                       try with_reducible rfl
                     simp only [Act.put, List.setIfInBounds_toArray, List.set_cons_zero, List.set_cons_succ])
                  | (refine mv_free _ (Or.inr ⟨by rfl, rfl⟩) (⟨c0, d0, rfl⟩) ?_
                     simp only [Act.put, List.setIfInBounds_toArray, List.set_cons_zero, List.set_cons_succ])
              refine mv_step (fun K hK => ?_)
              go_simp
              refine (S2k.out _).mono ?_
              rintro e w' ⟨rfl, rfl⟩
              have a0 : wr.drew.cell? ⟨qb + 1, 0, none⟩ = _ := KR.out.c 0 _ (mC_at D 0 0 (by omega))
              have b0 : wr.drew.frozen? ⟨qb + 1, 0, none⟩ = false := KR.out.f 0 (by rw [mC_len]; omega)
              go_wp2_with fail
              refine hK.out _ _ _ (fun u hu => hu) (⟨c0, d0, rfl⟩) ?_
              clear hK K
              iterate 1
                first
                  | (refine mv_free ?_ (Or.inl ⟨by rfl, ?_⟩) (⟨c0, d0, rfl⟩) ?_
                     rotate_left 1
                     · intro u
                       go_simp
                       try simp only [d1]
                       try simp only [d2]
                       try simp only [d3]
                       try with_reducible rfl
                     simp only [Act.put, List.setIfInBounds_toArray, List.set_cons_zero, List.set_cons_succ])
                  | (refine mv_free _ (Or.inr ⟨by rfl, rfl⟩) (⟨c0, d0, rfl⟩) ?_
                     simp only [Act.put, List.setIfInBounds_toArray, List.set_cons_zero, List.set_cons_succ])
              refine mv_late (fun K hK => ?_)
              go_simp
              refine hK.out (fun _ => True) _ _ ?_
              clear hK K
              refine mv_done ?_
              obtain ⟨w8, ew8⟩ : ∃ w8, w8 = (wr.setCell ⟨qb + 1, 0, none⟩ (.int .i64 (P1 0))).drew := ⟨_, rfl⟩
              obtain ⟨k8, b8⟩ := ((HB.start KR.out).set 0 (.int .i64 (P1 0)) (by rw [mC_len]; omega)).fin (v' := w8) (by rw [ew8]; rfl) (by rw [ew8]; rfl) (by rw [ew8]; rfl) (by rw [ew8]; rfl)
              have bs8 : Beside ob w w8 := by rw [ew8]; exact (Beside.of_new BS.out (p := ⟨qb + 1, 0, none⟩) (by show w.heap.size < qb + 1; omega) _).as rfl rfl rfl rfl
              replace KO := Lib.hid (KO.out.beside b8 (by omega))
              replace KQ := Lib.hid (KQ.out.beside b8 (by omega))
              have KR8 := Lib.hid k8
              replace BS := Lib.hid bs8
              rw [← ew8]
              replace ew8 := Lib.hid ew8
              clear k8 b8 bs8 a0 b0 c0 d0 KR S2k en0
              have a0 : w8.cell? ⟨qb + 1, 0, none⟩ = some (.int .i64 (P1 0)) := KR8.out.c 0 _ (List.getElem?_set_self (by simp [mC_len]))
              have b0 := KR8.out.f 0 (by rw [List.length_set, mC_len]; omega)
              have em : IntKind.i64.wrap 0 = 0 := by decide
              rcases (show P1 0 < 0 ∨ 0 ≤ P1 0 by omega) with hp | hp
              · obtain ⟨w9, ew9⟩ : ∃ w9, w9 = w8.setCell ⟨qb + 1, 0, none⟩ (.int .i64 0) := ⟨_, rfl⟩
                have hD : D 0 = 0 := by rw [Dk.out, if_pos hp]
                obtain ⟨k9, b9⟩ := (((HB.start KR8.out).set 0 (.int .i64 0) (by rw [List.length_set, mC_len]; omega)).is (show _ = mC D 1 from (congrArg (fun q => ((mC D 0).set 0 (.int .i64 (P1 0))).set 0 (.int .i64 q)) hD.symm).trans (kq_set0 D (P1 0)))).fin (v' := w9) (by rw [ew9]) (by rw [ew9]) (by rw [ew9]) (by rw [ew9])
                have bs9 : Beside ob w w9 := by rw [ew9]; exact Beside.of_new BS.out (p := ⟨qb + 1, 0, none⟩) (by show w.heap.size < qb + 1; omega) _
                replace KO := Lib.hid (KO.out.beside b9 (by omega))
                replace KQ := Lib.hid (KQ.out.beside b9 (by omega))
                have KR := Lib.hid k9
                replace BS := Lib.hid bs9
                replace hD := Lib.hid hD
                clear k9 b9 bs9
                go_upto_region 24 with (fail)
                rw [← ew9]
                replace ew9 := Lib.hid ew9
                clear a0 b0
                go_wp2
                go_roundw
                case rel => exact ⟨0 + 1, by omega, by first | rfl | go_num, KO, KQ, KR, BS⟩
                case measure => simp [intOf]
              · have KR := Lib.hid (show Held (qb + 1) (mC D 1) w8 by have h := KR8.out; rw [show (.int .i64 (P1 0) : Value) = .int .i64 (D 0) by rw [Dk.out, if_neg (by omega)], mC_set D 0 (by omega)] at h; exact h)
                go_wp2
                go_roundw
                case rel => exact ⟨0 + 1, by omega, by first | rfl | go_num, KO, KQ, KR, BS⟩
                case measure => simp [intOf]
            · have kk : ((1 : Nat) : Int) = 1 := rfl
              have c0 : wr.cell? ⟨ob, 4, none⟩ = some (.int .i64 (P 1)) := KO.out.c 4 _ rfl
              have d0 : wr.cell? ⟨qb, 1, none⟩ = some (.int .i64 (OO 1)) := KQ.out.c 1 _ rfl
              have en1 : IntKind.i64.wrap (-(OO 1)) = -(OO 1) := by have := ob1.out 1; exact IntWalk.i64_in _ ⟨by omega, by omega⟩
              have S2k := Lib.hid (S2.out 1)
              have Dk := DD.out 1
              rw [if_neg (by decide)] at Dk
              replace Dk := Lib.hid Dk
              have e9 : (1 : Int) < 9 := by omega
              go_wp2_with fail
              refine region_moves (fun u => u.cell? ⟨ob, 4, none⟩ = some (.int .i64 (P 1)) ∧ u.cell? ⟨qb, 1, none⟩ = some (.int .i64 (OO 1)) ∧ u = wr.drew) [(13, [(12, 13), (11, 13), (0, 13), (1, 13), (2, 13), (3, 13), (4, 13), (5, 13), (6, 13), (7, 13), (8, 13), (9, 13), (10, 13)])] [(.free, 0), (.free, 1), (.free, 2), (.free, 3), (.free, 4), (.free, 5), (.take, 6), (.free, 7), (.free, 8), (.take, 9), (.free, 10), (.step, 11), (.free, 12), (.late, 13)] _ (by kernel_rfl) (by kernel_rfl) (by kernel_rfl) (by kernel_rfl) (by decide) rfl (fun _ _ _ _ _ h => h) ?_
              simp only [List.filterMap_cons, List.filterMap_nil, List.getElem?_toArray, List.getElem?_cons_zero, List.getElem?_cons_succ, Option.map_some]
              iterate 6
                first
                  | (refine mv_free ?_ (Or.inl ⟨by rfl, ?_⟩) (⟨c0, d0, rfl⟩) ?_
                     rotate_left 1
                     · intro u
                       go_simp
                       try simp only [d1]
                       try simp only [d2]
                       try simp only [d3]
                       try with_reducible rfl
                     simp only [Act.put, List.setIfInBounds_toArray, List.set_cons_zero, List.set_cons_succ])
                  | (refine mv_free _ (Or.inr ⟨by rfl, rfl⟩) (⟨c0, d0, rfl⟩) ?_
                     simp only [Act.put, List.setIfInBounds_toArray, List.set_cons_zero, List.set_cons_succ])
              iterate 1
                first
                  | (refine mv_take ?_ (Or.inl ⟨by rfl, ?_⟩) (⟨c0, d0, rfl⟩) ?_
                     rotate_left 1
                     · intro u hu
                       (try dsimp only at hu)
                       go_simp
                       try with_reducible rfl
                     simp only [Act.put, List.setIfInBounds_toArray, List.set_cons_zero, List.set_cons_succ])
                  | (refine mv_take _ (Or.inr ⟨by rfl, rfl⟩) (⟨c0, d0, rfl⟩) ?_
                     simp only [Act.put, List.setIfInBounds_toArray, List.set_cons_zero, List.set_cons_succ])
              iterate 2
                first
                  | (refine mv_free ?_ (Or.inl ⟨by rfl, ?_⟩) (⟨c0, d0, rfl⟩) ?_
                     rotate_left 1
                     · intro u
                       go_simp
                       try simp only [d1]
                       try simp only [d2]
                       try simp only [d3]
                       try with_reducible rfl
                     simp only [Act.put, List.setIfInBounds_toArray, List.set_cons_zero, List.set_cons_succ])
                  | (refine mv_free _ (Or.inr ⟨by rfl, rfl⟩) (⟨c0, d0, rfl⟩) ?_
                     simp only [Act.put, List.setIfInBounds_toArray, List.set_cons_zero, List.set_cons_succ])
              iterate 1
                first
                  | (refine mv_take ?_ (Or.inl ⟨by rfl, ?_⟩) (⟨c0, d0, rfl⟩) ?_
                     rotate_left 1
                     · intro u hu
                       (try dsimp only at hu)
                       go_simp
                       try with_reducible rfl
                     simp only [Act.put, List.setIfInBounds_toArray, List.set_cons_zero, List.set_cons_succ])
                  | (refine mv_take _ (Or.inr ⟨by rfl, rfl⟩) (⟨c0, d0, rfl⟩) ?_
                     simp only [Act.put, List.setIfInBounds_toArray, List.set_cons_zero, List.set_cons_succ])
              iterate 1
                first
                  | (refine mv_free ?_ (Or.inl ⟨by rfl, ?_⟩) (⟨c0, d0, rfl⟩) ?_
                     rotate_left 1
                     · intro u
                       go_simp
                       try simp only [d1]
                       try simp only [d2]
                       try simp only [d3]
                       try with_reducible rfl
                     simp only [Act.put, List.setIfInBounds_toArray, List.set_cons_zero, List.set_cons_succ])
                  | (refine mv_free _ (Or.inr ⟨by rfl, rfl⟩) (⟨c0, d0, rfl⟩) ?_
                     simp only [Act.put, List.setIfInBounds_toArray, List.set_cons_zero, List.set_cons_succ])
              refine mv_step (fun K hK => ?_)
              go_simp
              refine (S2k.out _).mono ?_
              rintro e w' ⟨rfl, rfl⟩
              have a0 : wr.drew.cell? ⟨qb + 1, 1, none⟩ = _ := KR.out.c 1 _ (mC_at D 1 1 (by omega))
              have b0 : wr.drew.frozen? ⟨qb + 1, 1, none⟩ = false := KR.out.f 1 (by rw [mC_len]; omega)
              go_wp2_with fail
              refine hK.out _ _ _ (fun u hu => hu) (⟨c0, d0, rfl⟩) ?_
              clear hK K
              iterate 1
                first
                  | (refine mv_free ?_ (Or.inl ⟨by rfl, ?_⟩) (⟨c0, d0, rfl⟩) ?_
                     rotate_left 1
                     · intro u
                       go_simp
                       try simp only [d1]
                       try simp only [d2]
                       try simp only [d3]
                       try with_reducible rfl
                     simp only [Act.put, List.setIfInBounds_toArray, List.set_cons_zero, List.set_cons_succ])
                  | (refine mv_free _ (Or.inr ⟨by rfl, rfl⟩) (⟨c0, d0, rfl⟩) ?_
                     simp only [Act.put, List.setIfInBounds_toArray, List.set_cons_zero, List.set_cons_succ])
              refine mv_late (fun K hK => ?_)
              go_simp
              refine hK.out (fun _ => True) _ _ ?_
              clear hK K
              refine mv_done ?_
              obtain ⟨w8, ew8⟩ : ∃ w8, w8 = (wr.setCell ⟨qb + 1, 1, none⟩ (.int .i64 (P1 1))).drew := ⟨_, rfl⟩
              obtain ⟨k8, b8⟩ := ((HB.start KR.out).set 1 (.int .i64 (P1 1)) (by rw [mC_len]; omega)).fin (v' := w8) (by rw [ew8]; rfl) (by rw [ew8]; rfl) (by rw [ew8]; rfl) (by rw [ew8]; rfl)
              have bs8 : Beside ob w w8 := by rw [ew8]; exact (Beside.of_new BS.out (p := ⟨qb + 1, 1, none⟩) (by show w.heap.size < qb + 1; omega) _).as rfl rfl rfl rfl
              replace KO := Lib.hid (KO.out.beside b8 (by omega))
              replace KQ := Lib.hid (KQ.out.beside b8 (by omega))
              have KR8 := Lib.hid k8
              replace BS := Lib.hid bs8
              rw [← ew8]
              replace ew8 := Lib.hid ew8
              clear k8 b8 bs8 a0 b0 c0 d0 KR S2k en1
              have em : IntKind.i64.wrap 1 = 1 := by decide
              have KR := Lib.hid (show Held (qb + 1) (mC D 2) w8 by have h := KR8.out; rw [show (.int .i64 (P1 1) : Value) = .int .i64 (D 1) by rw [Dk.out], mC_set D 1 (by omega)] at h; exact h)
              go_wp2
              go_roundw
              case rel => exact ⟨1 + 1, by omega, by first | rfl | go_num, KO, KQ, KR, BS⟩
              case measure => simp [intOf]
            · have kk : ((2 : Nat) : Int) = 2 := rfl
              have c0 : wr.cell? ⟨ob, 5, none⟩ = some (.int .i64 (P 2)) := KO.out.c 5 _ rfl
              have d0 : wr.cell? ⟨qb, 2, none⟩ = some (.int .i64 (OO 2)) := KQ.out.c 2 _ rfl
              have en2 : IntKind.i64.wrap (-(OO 2)) = -(OO 2) := by have := ob1.out 2; exact IntWalk.i64_in _ ⟨by omega, by omega⟩
              have S2k := Lib.hid (S2.out 2)
              have Dk := DD.out 2
              rw [if_neg (by decide)] at Dk
              replace Dk := Lib.hid Dk
              have e9 : (2 : Int) < 9 := by omega
              go_wp2_with fail
              refine region_moves (fun u => u.cell? ⟨ob, 5, none⟩ = some (.int .i64 (P 2)) ∧ u.cell? ⟨qb, 2, none⟩ = some (.int .i64 (OO 2)) ∧ u = wr.drew) [(13, [(12, 13), (11, 13), (0, 13), (1, 13), (2, 13), (3, 13), (4, 13), (5, 13), (6, 13), (7, 13), (8, 13), (9, 13), (10, 13)])] [(.free, 0), (.free, 1), (.free, 2), (.free, 3), (.free, 4), (.free, 5), (.take, 6), (.free, 7), (.free, 8), (.take, 9), (.free, 10), (.step, 11), (.free, 12), (.late, 13)] _ (by kernel_rfl) (by kernel_rfl) (by kernel_rfl) (by kernel_rfl) (by decide) rfl (fun _ _ _ _ _ h => h) ?_
              simp only [List.filterMap_cons, List.filterMap_nil, List.getElem?_toArray, List.getElem?_cons_zero, List.getElem?_cons_succ, Option.map_some]
              iterate 6
                first
                  | (refine mv_free ?_ (Or.inl ⟨by rfl, ?_⟩) (⟨c0, d0, rfl⟩) ?_
                     rotate_left 1
                     · intro u
                       go_simp
                       try simp only [d1]
                       try simp only [d2]
                       try simp only [d3]
                       try with_reducible rfl
                     simp only [Act.put, List.setIfInBounds_toArray, List.set_cons_zero, List.set_cons_succ])
                  | (refine mv_free _ (Or.inr ⟨by rfl, rfl⟩) (⟨c0, d0, rfl⟩) ?_
                     simp only [Act.put, List.setIfInBounds_toArray, List.set_cons_zero, List.set_cons_succ])
              iterate 1
                first
                  | (refine mv_take ?_ (Or.inl ⟨by rfl, ?_⟩) (⟨c0, d0, rfl⟩) ?_
                     rotate_left 1
                     · intro u hu
                       (try dsimp only at hu)
                       go_simp
                       try with_reducible rfl
                     simp only [Act.put, List.setIfInBounds_toArray, List.set_cons_zero, List.set_cons_succ])
                  | (refine mv_take _ (Or.inr ⟨by rfl, rfl⟩) (⟨c0, d0, rfl⟩) ?_
                     simp only [Act.put, List.setIfInBounds_toArray, List.set_cons_zero, List.set_cons_succ])
              iterate 2
                first
                  | (refine mv_free ?_ (Or.inl ⟨by rfl, ?_⟩) (⟨c0, d0, rfl⟩) ?_
                     rotate_left 1
                     · intro u
                       go_simp
                       try simp only [d1]
                       try simp only [d2]
                       try simp only [d3]
                       try with_reducible rfl
                     simp only [Act.put, List.setIfInBounds_toArray, List.set_cons_zero, List.set_cons_succ])
                  | (refine mv_free _ (Or.inr ⟨by rfl, rfl⟩) (⟨c0, d0, rfl⟩) ?_
                     simp only [Act.put, List.setIfInBounds_toArray, List.set_cons_zero, List.set_cons_succ])
              iterate 1
                first
                  | (refine mv_take ?_ (Or.inl ⟨by rfl, ?_⟩) (⟨c0, d0, rfl⟩) ?_
                     rotate_left 1
                     · intro u hu
                       (try dsimp only at hu)
                       go_simp
                       try with_reducible rfl
                     simp only [Act.put, List.setIfInBounds_toArray, List.set_cons_zero, List.set_cons_succ])
                  | (refine mv_take _ (Or.inr ⟨by rfl, rfl⟩) (⟨c0, d0, rfl⟩) ?_
                     simp only [Act.put, List.setIfInBounds_toArray, List.set_cons_zero, List.set_cons_succ])
              iterate 1
                first
                  | (refine mv_free ?_ (Or.inl ⟨by rfl, ?_⟩) (⟨c0, d0, rfl⟩) ?_
                     rotate_left 1
                     · intro u
                       go_simp
                       try simp only [d1]
                       try simp only [d2]
                       try simp only [d3]
                       try with_reducible rfl
                     simp only [Act.put, List.setIfInBounds_toArray, List.set_cons_zero, List.set_cons_succ])
                  | (refine mv_free _ (Or.inr ⟨by rfl, rfl⟩) (⟨c0, d0, rfl⟩) ?_
                     simp only [Act.put, List.setIfInBounds_toArray, List.set_cons_zero, List.set_cons_succ])
              refine mv_step (fun K hK => ?_)
              go_simp
              refine (S2k.out _).mono ?_
              rintro e w' ⟨rfl, rfl⟩
              have a0 : wr.drew.cell? ⟨qb + 1, 2, none⟩ = _ := KR.out.c 2 _ (mC_at D 2 2 (by omega))
              have b0 : wr.drew.frozen? ⟨qb + 1, 2, none⟩ = false := KR.out.f 2 (by rw [mC_len]; omega)
              go_wp2_with fail
              refine hK.out _ _ _ (fun u hu => hu) (⟨c0, d0, rfl⟩) ?_
              clear hK K
              iterate 1
                first
                  | (refine mv_free ?_ (Or.inl ⟨by rfl, ?_⟩) (⟨c0, d0, rfl⟩) ?_
                     rotate_left 1
                     · intro u
                       go_simp
                       try simp only [d1]
                       try simp only [d2]
                       try simp only [d3]
                       try with_reducible rfl
                     simp only [Act.put, List.setIfInBounds_toArray, List.set_cons_zero, List.set_cons_succ])
                  | (refine mv_free _ (Or.inr ⟨by rfl, rfl⟩) (⟨c0, d0, rfl⟩) ?_
                     simp only [Act.put, List.setIfInBounds_toArray, List.set_cons_zero, List.set_cons_succ])
              refine mv_late (fun K hK => ?_)
              go_simp
              refine hK.out (fun _ => True) _ _ ?_
              clear hK K
              refine mv_done ?_
              obtain ⟨w8, ew8⟩ : ∃ w8, w8 = (wr.setCell ⟨qb + 1, 2, none⟩ (.int .i64 (P1 2))).drew := ⟨_, rfl⟩
              obtain ⟨k8, b8⟩ := ((HB.start KR.out).set 2 (.int .i64 (P1 2)) (by rw [mC_len]; omega)).fin (v' := w8) (by rw [ew8]; rfl) (by rw [ew8]; rfl) (by rw [ew8]; rfl) (by rw [ew8]; rfl)
              have bs8 : Beside ob w w8 := by rw [ew8]; exact (Beside.of_new BS.out (p := ⟨qb + 1, 2, none⟩) (by show w.heap.size < qb + 1; omega) _).as rfl rfl rfl rfl
              replace KO := Lib.hid (KO.out.beside b8 (by omega))
              replace KQ := Lib.hid (KQ.out.beside b8 (by omega))
              have KR8 := Lib.hid k8
              replace BS := Lib.hid bs8
              rw [← ew8]
              replace ew8 := Lib.hid ew8
              clear k8 b8 bs8 a0 b0 c0 d0 KR S2k en2
              have em : IntKind.i64.wrap 2 = 2 := by decide
              have KR := Lib.hid (show Held (qb + 1) (mC D 3) w8 by have h := KR8.out; rw [show (.int .i64 (P1 2) : Value) = .int .i64 (D 2) by rw [Dk.out], mC_set D 2 (by omega)] at h; exact h)
              go_wp2
              go_roundw
              case rel => exact ⟨2 + 1, by omega, by first | rfl | go_num, KO, KQ, KR, BS⟩
              case measure => simp [intOf]
            · have kk : ((3 : Nat) : Int) = 3 := rfl
              have c0 : wr.cell? ⟨ob, 6, none⟩ = some (.int .i64 (P 3)) := KO.out.c 6 _ rfl
              have d0 : wr.cell? ⟨qb, 3, none⟩ = some (.int .i64 (OO 3)) := KQ.out.c 3 _ rfl
              have en3 : IntKind.i64.wrap (-(OO 3)) = -(OO 3) := by have := ob1.out 3; exact IntWalk.i64_in _ ⟨by omega, by omega⟩
              have S2k := Lib.hid (S2.out 3)
              have Dk := DD.out 3
              rw [if_neg (by decide)] at Dk
              replace Dk := Lib.hid Dk
              have e9 : (3 : Int) < 9 := by omega
              go_wp2_with fail
              refine region_moves (fun u => u.cell? ⟨ob, 6, none⟩ = some (.int .i64 (P 3)) ∧ u.cell? ⟨qb, 3, none⟩ = some (.int .i64 (OO 3)) ∧ u = wr.drew) [(13, [(12, 13), (11, 13), (0, 13), (1, 13), (2, 13), (3, 13), (4, 13), (5, 13), (6, 13), (7, 13), (8, 13), (9, 13), (10, 13)])] [(.free, 0), (.free, 1), (.free, 2), (.free, 3), (.free, 4), (.free, 5), (.take, 6), (.free, 7), (.free, 8), (.take, 9), (.free, 10), (.step, 11), (.free, 12), (.late, 13)] _ (by kernel_rfl) (by kernel_rfl) (by kernel_rfl) (by kernel_rfl) (by decide) rfl (fun _ _ _ _ _ h => h) ?_
              simp only [List.filterMap_cons, List.filterMap_nil, List.getElem?_toArray, List.getElem?_cons_zero, List.getElem?_cons_succ, Option.map_some]
              iterate 6
                first
                  | (refine mv_free ?_ (Or.inl ⟨by rfl, ?_⟩) (⟨c0, d0, rfl⟩) ?_
                     rotate_left 1
                     · intro u
                       go_simp
                       try simp only [d1]
                       try simp only [d2]
                       try simp only [d3]
                       try with_reducible rfl
                     simp only [Act.put, List.setIfInBounds_toArray, List.set_cons_zero, List.set_cons_succ])
                  | (refine mv_free _ (Or.inr ⟨by rfl, rfl⟩) (⟨c0, d0, rfl⟩) ?_
                     simp only [Act.put, List.setIfInBounds_toArray, List.set_cons_zero, List.set_cons_succ])
              iterate 1
                first
                  | (refine mv_take ?_ (Or.inl ⟨by rfl, ?_⟩) (⟨c0, d0, rfl⟩) ?_
                     rotate_left 1
                     · intro u hu
                       (try dsimp only at hu)
                       go_simp
                       try with_reducible rfl
                     simp only [Act.put, List.setIfInBounds_toArray, List.set_cons_zero, List.set_cons_succ])
                  | (refine mv_take _ (Or.inr ⟨by rfl, rfl⟩) (⟨c0, d0, rfl⟩) ?_
                     simp only [Act.put, List.setIfInBounds_toArray, List.set_cons_zero, List.set_cons_succ])
              iterate 2
                first
                  | (refine mv_free ?_ (Or.inl ⟨by rfl, ?_⟩) (⟨c0, d0, rfl⟩) ?_
                     rotate_left 1
                     · intro u
                       go_simp
                       try simp only [d1]
                       try simp only [d2]
                       try simp only [d3]
                       try with_reducible rfl
                     simp only [Act.put, List.setIfInBounds_toArray, List.set_cons_zero, List.set_cons_succ])
                  | (refine mv_free _ (Or.inr ⟨by rfl, rfl⟩) (⟨c0, d0, rfl⟩) ?_
                     simp only [Act.put, List.setIfInBounds_toArray, List.set_cons_zero, List.set_cons_succ])
              iterate 1
                first
                  | (refine mv_take ?_ (Or.inl ⟨by rfl, ?_⟩) (⟨c0, d0, rfl⟩) ?_
                     rotate_left 1
                     · intro u hu
                       (try dsimp only at hu)
                       go_simp
                       try with_reducible rfl
                     simp only [Act.put, List.setIfInBounds_toArray, List.set_cons_zero, List.set_cons_succ])
                  | (refine mv_take _ (Or.inr ⟨by rfl, rfl⟩) (⟨c0, d0, rfl⟩) ?_
                     simp only [Act.put, List.setIfInBounds_toArray, List.set_cons_zero, List.set_cons_succ])
              iterate 1
                first
                  | (refine mv_free ?_ (Or.inl ⟨by rfl, ?_⟩) (⟨c0, d0, rfl⟩) ?_
                     rotate_left 1
                     · intro u
                       go_simp
                       try simp only [d1]
                       try simp only [d2]
                       try simp only [d3]
                       try with_reducible rfl
                     simp only [Act.put, List.setIfInBounds_toArray, List.set_cons_zero, List.set_cons_succ])
                  | (refine mv_free _ (Or.inr ⟨by rfl, rfl⟩) (⟨c0, d0, rfl⟩) ?_
                     simp only [Act.put, List.setIfInBounds_toArray, List.set_cons_zero, List.set_cons_succ])
              refine mv_step (fun K hK => ?_)
              go_simp
              refine (S2k.out _).mono ?_
              rintro e w' ⟨rfl, rfl⟩
              have a0 : wr.drew.cell? ⟨qb + 1, 3, none⟩ = _ := KR.out.c 3 _ (mC_at D 3 3 (by omega))
              have b0 : wr.drew.frozen? ⟨qb + 1, 3, none⟩ = false := KR.out.f 3 (by rw [mC_len]; omega)
              go_wp2_with fail
              refine hK.out _ _ _ (fun u hu => hu) (⟨c0, d0, rfl⟩) ?_
              clear hK K
              iterate 1
                first
                  | (refine mv_free ?_ (Or.inl ⟨by rfl, ?_⟩) (⟨c0, d0, rfl⟩) ?_
                     rotate_left 1
                     · intro u
                       go_simp
                       try simp only [d1]
                       try simp only [d2]
                       try simp only [d3]
                       try with_reducible rfl
                     simp only [Act.put, List.setIfInBounds_toArray, List.set_cons_zero, List.set_cons_succ])
                  | (refine mv_free _ (Or.inr ⟨by rfl, rfl⟩) (⟨c0, d0, rfl⟩) ?_
                     simp only [Act.put, List.setIfInBounds_toArray, List.set_cons_zero, List.set_cons_succ])
              refine mv_late (fun K hK => ?_)
              go_simp
              refine hK.out (fun _ => True) _ _ ?_
              clear hK K
              refine mv_done ?_
              obtain ⟨w8, ew8⟩ : ∃ w8, w8 = (wr.setCell ⟨qb + 1, 3, none⟩ (.int .i64 (P1 3))).drew := ⟨_, rfl⟩
              obtain ⟨k8, b8⟩ := ((HB.start KR.out).set 3 (.int .i64 (P1 3)) (by rw [mC_len]; omega)).fin (v' := w8) (by rw [ew8]; rfl) (by rw [ew8]; rfl) (by rw [ew8]; rfl) (by rw [ew8]; rfl)
              have bs8 : Beside ob w w8 := by rw [ew8]; exact (Beside.of_new BS.out (p := ⟨qb + 1, 3, none⟩) (by show w.heap.size < qb + 1; omega) _).as rfl rfl rfl rfl
              replace KO := Lib.hid (KO.out.beside b8 (by omega))
              replace KQ := Lib.hid (KQ.out.beside b8 (by omega))
              have KR8 := Lib.hid k8
              replace BS := Lib.hid bs8
              rw [← ew8]
              replace ew8 := Lib.hid ew8
              clear k8 b8 bs8 a0 b0 c0 d0 KR S2k en3
              have em : IntKind.i64.wrap 3 = 3 := by decide
              have KR := Lib.hid (show Held (qb + 1) (mC D 4) w8 by have h := KR8.out; rw [show (.int .i64 (P1 3) : Value) = .int .i64 (D 3) by rw [Dk.out], mC_set D 3 (by omega)] at h; exact h)
              go_wp2
              go_roundw
              case rel => exact ⟨3 + 1, by omega, by first | rfl | go_num, KO, KQ, KR, BS⟩
              case measure => simp [intOf]
            · have kk : ((4 : Nat) : Int) = 4 := rfl
              have c0 : wr.cell? ⟨ob, 7, none⟩ = some (.int .i64 (P 4)) := KO.out.c 7 _ rfl
              have d0 : wr.cell? ⟨qb, 4, none⟩ = some (.int .i64 (OO 4)) := KQ.out.c 4 _ rfl
              have en4 : IntKind.i64.wrap (-(OO 4)) = -(OO 4) := by have := ob1.out 4; exact IntWalk.i64_in _ ⟨by omega, by omega⟩
              have S2k := Lib.hid (S2.out 4)
              have Dk := DD.out 4
              rw [if_pos (by decide)] at Dk
              replace Dk := Lib.hid Dk
              have e9 : (4 : Int) < 9 := by omega
              go_wp2_with fail
              refine region_moves (fun u => u.cell? ⟨ob, 7, none⟩ = some (.int .i64 (P 4)) ∧ u.cell? ⟨qb, 4, none⟩ = some (.int .i64 (OO 4)) ∧ u = wr.drew) [(13, [(12, 13), (11, 13), (0, 13), (1, 13), (2, 13), (3, 13), (4, 13), (5, 13), (6, 13), (7, 13), (8, 13), (9, 13), (10, 13)])] [(.free, 0), (.free, 1), (.free, 2), (.free, 3), (.free, 4), (.free, 5), (.take, 6), (.free, 7), (.free, 8), (.take, 9), (.free, 10), (.step, 11), (.free, 12), (.late, 13)] _ (by kernel_rfl) (by kernel_rfl) (by kernel_rfl) (by kernel_rfl) (by decide) rfl (fun _ _ _ _ _ h => h) ?_
              simp only [List.filterMap_cons, List.filterMap_nil, List.getElem?_toArray, List.getElem?_cons_zero, List.getElem?_cons_succ, Option.map_some]
              iterate 6
                first
                  | (refine mv_free ?_ (Or.inl ⟨by rfl, ?_⟩) (⟨c0, d0, rfl⟩) ?_
                     rotate_left 1
                     · intro u
                       go_simp
                       try simp only [d1]
                       try simp only [d2]
                       try simp only [d3]
                       try with_reducible rfl
                     simp only [Act.put, List.setIfInBounds_toArray, List.set_cons_zero, List.set_cons_succ])
                  | (refine mv_free _ (Or.inr ⟨by rfl, rfl⟩) (⟨c0, d0, rfl⟩) ?_
                     simp only [Act.put, List.setIfInBounds_toArray, List.set_cons_zero, List.set_cons_succ])
              iterate 1
                first
                  | (refine mv_take ?_ (Or.inl ⟨by rfl, ?_⟩) (⟨c0, d0, rfl⟩) ?_
                     rotate_left 1
                     · intro u hu
                       (try dsimp only at hu)
                       go_simp
                       try with_reducible rfl
                     simp only [Act.put, List.setIfInBounds_toArray, List.set_cons_zero, List.set_cons_succ])
                  | (refine mv_take _ (Or.inr ⟨by rfl, rfl⟩) (⟨c0, d0, rfl⟩) ?_
                     simp only [Act.put, List.setIfInBounds_toArray, List.set_cons_zero, List.set_cons_succ])
              iterate 2
                first
                  | (refine mv_free ?_ (Or.inl ⟨by rfl, ?_⟩) (⟨c0, d0, rfl⟩) ?_
                     rotate_left 1
                     · intro u
                       go_simp
                       try simp only [d1]
                       try simp only [d2]
                       try simp only [d3]
                       try with_reducible rfl
                     simp only [Act.put, List.setIfInBounds_toArray, List.set_cons_zero, List.set_cons_succ])
                  | (refine mv_free _ (Or.inr ⟨by rfl, rfl⟩) (⟨c0, d0, rfl⟩) ?_
                     simp only [Act.put, List.setIfInBounds_toArray, List.set_cons_zero, List.set_cons_succ])
              iterate 1
                first
                  | (refine mv_take ?_ (Or.inl ⟨by rfl, ?_⟩) (⟨c0, d0, rfl⟩) ?_
                     rotate_left 1
                     · intro u hu
                       (try dsimp only at hu)
                       go_simp
                       try with_reducible rfl
                     simp only [Act.put, List.setIfInBounds_toArray, List.set_cons_zero, List.set_cons_succ])
                  | (refine mv_take _ (Or.inr ⟨by rfl, rfl⟩) (⟨c0, d0, rfl⟩) ?_
                     simp only [Act.put, List.setIfInBounds_toArray, List.set_cons_zero, List.set_cons_succ])
              iterate 1
                first
                  | (refine mv_free ?_ (Or.inl ⟨by rfl, ?_⟩) (⟨c0, d0, rfl⟩) ?_
                     rotate_left 1
                     · intro u
                       go_simp
                       try simp only [d1]
                       try simp only [d2]
                       try simp only [d3]
                       try with_reducible rfl
                     simp only [Act.put, List.setIfInBounds_toArray, List.set_cons_zero, List.set_cons_succ])
                  | (refine mv_free _ (Or.inr ⟨by rfl, rfl⟩) (⟨c0, d0, rfl⟩) ?_
                     simp only [Act.put, List.setIfInBounds_toArray, List.set_cons_zero, List.set_cons_succ])
              refine mv_step (fun K hK => ?_)
              go_simp
              refine (S2k.out _).mono ?_
              rintro e w' ⟨rfl, rfl⟩
              have a0 : wr.drew.cell? ⟨qb + 1, 4, none⟩ = _ := KR.out.c 4 _ (mC_at D 4 4 (by omega))
              have b0 : wr.drew.frozen? ⟨qb + 1, 4, none⟩ = false := KR.out.f 4 (by rw [mC_len]; omega)
              go_wp2_with fail
              refine hK.out _ _ _ (fun u hu => hu) (⟨c0, d0, rfl⟩) ?_
              clear hK K
              iterate 1
                first
                  | (refine mv_free ?_ (Or.inl ⟨by rfl, ?_⟩) (⟨c0, d0, rfl⟩) ?_
                     rotate_left 1
                     · intro u
                       go_simp
                       try simp only [d1]
                       try simp only [d2]
                       try simp only [d3]
                       try with_reducible rfl
                     simp only [Act.put, List.setIfInBounds_toArray, List.set_cons_zero, List.set_cons_succ])
                  | (refine mv_free _ (Or.inr ⟨by rfl, rfl⟩) (⟨c0, d0, rfl⟩) ?_
                     simp only [Act.put, List.setIfInBounds_toArray, List.set_cons_zero, List.set_cons_succ])
              refine mv_late (fun K hK => ?_)
              go_simp
              refine hK.out (fun _ => True) _ _ ?_
              clear hK K
              refine mv_done ?_
              obtain ⟨w8, ew8⟩ : ∃ w8, w8 = (wr.setCell ⟨qb + 1, 4, none⟩ (.int .i64 (P1 4))).drew := ⟨_, rfl⟩
              obtain ⟨k8, b8⟩ := ((HB.start KR.out).set 4 (.int .i64 (P1 4)) (by rw [mC_len]; omega)).fin (v' := w8) (by rw [ew8]; rfl) (by rw [ew8]; rfl) (by rw [ew8]; rfl) (by rw [ew8]; rfl)
              have bs8 : Beside ob w w8 := by rw [ew8]; exact (Beside.of_new BS.out (p := ⟨qb + 1, 4, none⟩) (by show w.heap.size < qb + 1; omega) _).as rfl rfl rfl rfl
              replace KO := Lib.hid (KO.out.beside b8 (by omega))
              replace KQ := Lib.hid (KQ.out.beside b8 (by omega))
              have KR8 := Lib.hid k8
              replace BS := Lib.hid bs8
              rw [← ew8]
              replace ew8 := Lib.hid ew8
              clear k8 b8 bs8 a0 b0 c0 d0 KR S2k en4
              have a0 : w8.cell? ⟨qb + 1, 4, none⟩ = some (.int .i64 (P1 4)) := KR8.out.c 4 _ (List.getElem?_set_self (by simp [mC_len]))
              have b0 := KR8.out.f 4 (by rw [List.length_set, mC_len]; omega)
              have em : IntKind.i64.wrap 0 = 0 := by decide
              rcases (show P1 4 < 0 ∨ 0 ≤ P1 4 by omega) with hp | hp
              · obtain ⟨w9, ew9⟩ : ∃ w9, w9 = w8.setCell ⟨qb + 1, 4, none⟩ (.int .i64 0) := ⟨_, rfl⟩
                have hD : D 4 = 0 := by rw [Dk.out, if_pos hp]
                obtain ⟨k9, b9⟩ := (((HB.start KR8.out).set 4 (.int .i64 0) (by rw [List.length_set, mC_len]; omega)).is (show _ = mC D 5 from (congrArg (fun q => ((mC D 4).set 4 (.int .i64 (P1 4))).set 4 (.int .i64 q)) hD.symm).trans (kq_set4 D (P1 4)))).fin (v' := w9) (by rw [ew9]) (by rw [ew9]) (by rw [ew9]) (by rw [ew9])
                have bs9 : Beside ob w w9 := by rw [ew9]; exact Beside.of_new BS.out (p := ⟨qb + 1, 4, none⟩) (by show w.heap.size < qb + 1; omega) _
                replace KO := Lib.hid (KO.out.beside b9 (by omega))
                replace KQ := Lib.hid (KQ.out.beside b9 (by omega))
                have KR := Lib.hid k9
                replace BS := Lib.hid bs9
                replace hD := Lib.hid hD
                clear k9 b9 bs9
                go_upto_region 24 with (fail)
                rw [← ew9]
                replace ew9 := Lib.hid ew9
                clear a0 b0
                go_wp2
                go_roundw
                case rel => exact ⟨4 + 1, by omega, by first | rfl | go_num, KO, KQ, KR, BS⟩
                case measure => simp [intOf]
              · have KR := Lib.hid (show Held (qb + 1) (mC D 5) w8 by have h := KR8.out; rw [show (.int .i64 (P1 4) : Value) = .int .i64 (D 4) by rw [Dk.out, if_neg (by omega)], mC_set D 4 (by omega)] at h; exact h)
                go_wp2
                go_roundw
                case rel => exact ⟨4 + 1, by omega, by first | rfl | go_num, KO, KQ, KR, BS⟩
                case measure => simp [intOf]
            · have kk : ((5 : Nat) : Int) = 5 := rfl
              have c0 : wr.cell? ⟨ob, 8, none⟩ = some (.int .i64 (P 5)) := KO.out.c 8 _ rfl
              have d0 : wr.cell? ⟨qb, 5, none⟩ = some (.int .i64 (OO 5)) := KQ.out.c 5 _ rfl
              have en5 : IntKind.i64.wrap (-(OO 5)) = -(OO 5) := by have := ob1.out 5; exact IntWalk.i64_in _ ⟨by omega, by omega⟩
              have S2k := Lib.hid (S2.out 5)
              have Dk := DD.out 5
              rw [if_neg (by decide)] at Dk
              replace Dk := Lib.hid Dk
              have e9 : (5 : Int) < 9 := by omega
              go_wp2_with fail
              refine region_moves (fun u => u.cell? ⟨ob, 8, none⟩ = some (.int .i64 (P 5)) ∧ u.cell? ⟨qb, 5, none⟩ = some (.int .i64 (OO 5)) ∧ u = wr.drew) [(13, [(12, 13), (11, 13), (0, 13), (1, 13), (2, 13), (3, 13), (4, 13), (5, 13), (6, 13), (7, 13), (8, 13), (9, 13), (10, 13)])] [(.free, 0), (.free, 1), (.free, 2), (.free, 3), (.free, 4), (.free, 5), (.take, 6), (.free, 7), (.free, 8), (.take, 9), (.free, 10), (.step, 11), (.free, 12), (.late, 13)] _ (by kernel_rfl) (by kernel_rfl) (by kernel_rfl) (by kernel_rfl) (by decide) rfl (fun _ _ _ _ _ h => h) ?_
              simp only [List.filterMap_cons, List.filterMap_nil, List.getElem?_toArray, List.getElem?_cons_zero, List.getElem?_cons_succ, Option.map_some]
              iterate 6
                first
                  | (refine mv_free ?_ (Or.inl ⟨by rfl, ?_⟩) (⟨c0, d0, rfl⟩) ?_
                     rotate_left 1
                     · intro u
                       go_simp
                       try simp only [d1]
                       try simp only [d2]
                       try simp only [d3]
                       try with_reducible rfl
                     simp only [Act.put, List.setIfInBounds_toArray, List.set_cons_zero, List.set_cons_succ])
                  | (refine mv_free _ (Or.inr ⟨by rfl, rfl⟩) (⟨c0, d0, rfl⟩) ?_
                     simp only [Act.put, List.setIfInBounds_toArray, List.set_cons_zero, List.set_cons_succ])
              iterate 1
                first
                  | (refine mv_take ?_ (Or.inl ⟨by rfl, ?_⟩) (⟨c0, d0, rfl⟩) ?_
                     rotate_left 1
                     · intro u hu
                       (try dsimp only at hu)
                       go_simp
                       try with_reducible rfl
                     simp only [Act.put, List.setIfInBounds_toArray, List.set_cons_zero, List.set_cons_succ])
                  | (refine mv_take _ (Or.inr ⟨by rfl, rfl⟩) (⟨c0, d0, rfl⟩) ?_
                     simp only [Act.put, List.setIfInBounds_toArray, List.set_cons_zero, List.set_cons_succ])
              iterate 2
                first
                  | (refine mv_free ?_ (Or.inl ⟨by rfl, ?_⟩) (⟨c0, d0, rfl⟩) ?_
                     rotate_left 1
                     · intro u
                       go_simp
                       try simp only [d1]
                       try simp only [d2]
                       try simp only [d3]
                       try with_reducible rfl
                     simp only [Act.put, List.setIfInBounds_toArray, List.set_cons_zero, List.set_cons_succ])
                  | (refine mv_free _ (Or.inr ⟨by rfl, rfl⟩) (⟨c0, d0, rfl⟩) ?_
                     simp only [Act.put, List.setIfInBounds_toArray, List.set_cons_zero, List.set_cons_succ])
              iterate 1
                first
                  | (refine mv_take ?_ (Or.inl ⟨by rfl, ?_⟩) (⟨c0, d0, rfl⟩) ?_
                     rotate_left 1
                     · intro u hu
                       (try dsimp only at hu)
                       go_simp
                       try with_reducible rfl
                     simp only [Act.put, List.setIfInBounds_toArray, List.set_cons_zero, List.set_cons_succ])
                  | (refine mv_take _ (Or.inr ⟨by rfl, rfl⟩) (⟨c0, d0, rfl⟩) ?_
                     simp only [Act.put, List.setIfInBounds_toArray, List.set_cons_zero, List.set_cons_succ])
              iterate 1
                first
                  | (refine mv_free ?_ (Or.inl ⟨by rfl, ?_⟩) (⟨c0, d0, rfl⟩) ?_
                     rotate_left 1
                     · intro u
                       go_simp
                       try simp only [d1]
                       try simp only [d2]
                       try simp only [d3]
                       try with_reducible rfl
                     simp only [Act.put, List.setIfInBounds_toArray, List.set_cons_zero, List.set_cons_succ])
                  | (refine mv_free _ (Or.inr ⟨by rfl, rfl⟩) (⟨c0, d0, rfl⟩) ?_
                     simp only [Act.put, List.setIfInBounds_toArray, List.set_cons_zero, List.set_cons_succ])
              refine mv_step (fun K hK => ?_)
              go_simp
              refine (S2k.out _).mono ?_
              rintro e w' ⟨rfl, rfl⟩
              have a0 : wr.drew.cell? ⟨qb + 1, 5, none⟩ = _ := KR.out.c 5 _ (mC_at D 5 5 (by omega))
              have b0 : wr.drew.frozen? ⟨qb + 1, 5, none⟩ = false := KR.out.f 5 (by rw [mC_len]; omega)
              go_wp2_with fail
              refine hK.out _ _ _ (fun u hu => hu) (⟨c0, d0, rfl⟩) ?_
              clear hK K
              iterate 1
                first
                  | (refine mv_free ?_ (Or.inl ⟨by rfl, ?_⟩) (⟨c0, d0, rfl⟩) ?_
                     rotate_left 1
                     · intro u
                       go_simp
                       try simp only [d1]
                       try simp only [d2]
                       try simp only [d3]
                       try with_reducible rfl
                     simp only [Act.put, List.setIfInBounds_toArray, List.set_cons_zero, List.set_cons_succ])
                  | (refine mv_free _ (Or.inr ⟨by rfl, rfl⟩) (⟨c0, d0, rfl⟩) ?_
                     simp only [Act.put, List.setIfInBounds_toArray, List.set_cons_zero, List.set_cons_succ])
              refine mv_late (fun K hK => ?_)
              go_simp
              refine hK.out (fun _ => True) _ _ ?_
              clear hK K
              refine mv_done ?_
              obtain ⟨w8, ew8⟩ : ∃ w8, w8 = (wr.setCell ⟨qb + 1, 5, none⟩ (.int .i64 (P1 5))).drew := ⟨_, rfl⟩
              obtain ⟨k8, b8⟩ := ((HB.start KR.out).set 5 (.int .i64 (P1 5)) (by rw [mC_len]; omega)).fin (v' := w8) (by rw [ew8]; rfl) (by rw [ew8]; rfl) (by rw [ew8]; rfl) (by rw [ew8]; rfl)
              have bs8 : Beside ob w w8 := by rw [ew8]; exact (Beside.of_new BS.out (p := ⟨qb + 1, 5, none⟩) (by show w.heap.size < qb + 1; omega) _).as rfl rfl rfl rfl
              replace KO := Lib.hid (KO.out.beside b8 (by omega))
              replace KQ := Lib.hid (KQ.out.beside b8 (by omega))
              have KR8 := Lib.hid k8
              replace BS := Lib.hid bs8
              rw [← ew8]
              replace ew8 := Lib.hid ew8
              clear k8 b8 bs8 a0 b0 c0 d0 KR S2k en5
              have em : IntKind.i64.wrap 1 = 1 := by decide
              have KR := Lib.hid (show Held (qb + 1) (mC D 6) w8 by have h := KR8.out; rw [show (.int .i64 (P1 5) : Value) = .int .i64 (D 5) by rw [Dk.out], mC_set D 5 (by omega)] at h; exact h)
              go_wp2
              go_roundw
              case rel => exact ⟨5 + 1, by omega, by first | rfl | go_num, KO, KQ, KR, BS⟩
              case measure => simp [intOf]
            · have kk : ((6 : Nat) : Int) = 6 := rfl
              have c0 : wr.cell? ⟨ob, 9, none⟩ = some (.int .i64 (P 6)) := KO.out.c 9 _ rfl
              have d0 : wr.cell? ⟨qb, 6, none⟩ = some (.int .i64 (OO 6)) := KQ.out.c 6 _ rfl
              have en6 : IntKind.i64.wrap (-(OO 6)) = -(OO 6) := by have := ob1.out 6; exact IntWalk.i64_in _ ⟨by omega, by omega⟩
              have S2k := Lib.hid (S2.out 6)
              have Dk := DD.out 6
              rw [if_neg (by decide)] at Dk
              replace Dk := Lib.hid Dk
              have e9 : (6 : Int) < 9 := by omega
              go_wp2_with fail
              refine region_moves (fun u => u.cell? ⟨ob, 9, none⟩ = some (.int .i64 (P 6)) ∧ u.cell? ⟨qb, 6, none⟩ = some (.int .i64 (OO 6)) ∧ u = wr.drew) [(13, [(12, 13), (11, 13), (0, 13), (1, 13), (2, 13), (3, 13), (4, 13), (5, 13), (6, 13), (7, 13), (8, 13), (9, 13), (10, 13)])] [(.free, 0), (.free, 1), (.free, 2), (.free, 3), (.free, 4), (.free, 5), (.take, 6), (.free, 7), (.free, 8), (.take, 9), (.free, 10), (.step, 11), (.free, 12), (.late, 13)] _ (by kernel_rfl) (by kernel_rfl) (by kernel_rfl) (by kernel_rfl) (by decide) rfl (fun _ _ _ _ _ h => h) ?_
              simp only [List.filterMap_cons, List.filterMap_nil, List.getElem?_toArray, List.getElem?_cons_zero, List.getElem?_cons_succ, Option.map_some]
              iterate 6
                first
                  | (refine mv_free ?_ (Or.inl ⟨by rfl, ?_⟩) (⟨c0, d0, rfl⟩) ?_
                     rotate_left 1
                     · intro u
                       go_simp
                       try simp only [d1]
                       try simp only [d2]
                       try simp only [d3]
                       try with_reducible rfl
                     simp only [Act.put, List.setIfInBounds_toArray, List.set_cons_zero, List.set_cons_succ])
                  | (refine mv_free _ (Or.inr ⟨by rfl, rfl⟩) (⟨c0, d0, rfl⟩) ?_
                     simp only [Act.put, List.setIfInBounds_toArray, List.set_cons_zero, List.set_cons_succ])
              iterate 1
                first
                  | (refine mv_take ?_ (Or.inl ⟨by rfl, ?_⟩) (⟨c0, d0, rfl⟩) ?_
                     rotate_left 1
                     · intro u hu
                       (try dsimp only at hu)
                       go_simp
                       try with_reducible rfl
                     simp only [Act.put, List.setIfInBounds_toArray, List.set_cons_zero, List.set_cons_succ])
                  | (refine mv_take _ (Or.inr ⟨by rfl, rfl⟩) (⟨c0, d0, rfl⟩) ?_
                     simp only [Act.put, List.setIfInBounds_toArray, List.set_cons_zero, List.set_cons_succ])
              iterate 2
                first
                  | (refine mv_free ?_ (Or.inl ⟨by rfl, ?_⟩) (⟨c0, d0, rfl⟩) ?_
                     rotate_left 1
                     · intro u
                       go_simp
                       try simp only [d1]
                       try simp only [d2]
                       try simp only [d3]
                       try with_reducible rfl
                     simp only [Act.put, List.setIfInBounds_toArray, List.set_cons_zero, List.set_cons_succ])
                  | (refine mv_free _ (Or.inr ⟨by rfl, rfl⟩) (⟨c0, d0, rfl⟩) ?_
                     simp only [Act.put, List.setIfInBounds_toArray, List.set_cons_zero, List.set_cons_succ])
              iterate 1
                first
                  | (refine mv_take ?_ (Or.inl ⟨by rfl, ?_⟩) (⟨c0, d0, rfl⟩) ?_
                     rotate_left 1
                     · intro u hu
                       (try dsimp only at hu)
                       go_simp
                       try with_reducible rfl
                     simp only [Act.put, List.setIfInBounds_toArray, List.set_cons_zero, List.set_cons_succ])
                  | (refine mv_take _ (Or.inr ⟨by rfl, rfl⟩) (⟨c0, d0, rfl⟩) ?_
                     simp only [Act.put, List.setIfInBounds_toArray, List.set_cons_zero, List.set_cons_succ])
              iterate 1
                first
                  | (refine mv_free ?_ (Or.inl ⟨by rfl, ?_⟩) (⟨c0, d0, rfl⟩) ?_
                     rotate_left 1
                     · intro u
                       go_simp
                       try simp only [d1]
                       try simp only [d2]
                       try simp only [d3]
                       try with_reducible rfl
                     simp only [Act.put, List.setIfInBounds_toArray, List.set_cons_zero, List.set_cons_succ])
                  | (refine mv_free _ (Or.inr ⟨by rfl, rfl⟩) (⟨c0, d0, rfl⟩) ?_
                     simp only [Act.put, List.setIfInBounds_toArray, List.set_cons_zero, List.set_cons_succ])
              refine mv_step (fun K hK => ?_)
              go_simp
              refine (S2k.out _).mono ?_
              rintro e w' ⟨rfl, rfl⟩
              have a0 : wr.drew.cell? ⟨qb + 1, 6, none⟩ = _ := KR.out.c 6 _ (mC_at D 6 6 (by omega))
              have b0 : wr.drew.frozen? ⟨qb + 1, 6, none⟩ = false := KR.out.f 6 (by rw [mC_len]; omega)
              go_wp2_with fail
              refine hK.out _ _ _ (fun u hu => hu) (⟨c0, d0, rfl⟩) ?_
              clear hK K
              iterate 1
                first
                  | (refine mv_free ?_ (Or.inl ⟨by rfl, ?_⟩) (⟨c0, d0, rfl⟩) ?_
                     rotate_left 1
                     · intro u
                       go_simp
                       try simp only [d1]
                       try simp only [d2]
                       try simp only [d3]
                       try with_reducible rfl
                     simp only [Act.put, List.setIfInBounds_toArray, List.set_cons_zero, List.set_cons_succ])
                  | (refine mv_free _ (Or.inr ⟨by rfl, rfl⟩) (⟨c0, d0, rfl⟩) ?_
                     simp only [Act.put, List.setIfInBounds_toArray, List.set_cons_zero, List.set_cons_succ])
              refine mv_late (fun K hK => ?_)
              go_simp
              refine hK.out (fun _ => True) _ _ ?_
              clear hK K
              refine mv_done ?_
              obtain ⟨w8, ew8⟩ : ∃ w8, w8 = (wr.setCell ⟨qb + 1, 6, none⟩ (.int .i64 (P1 6))).drew := ⟨_, rfl⟩
              obtain ⟨k8, b8⟩ := ((HB.start KR.out).set 6 (.int .i64 (P1 6)) (by rw [mC_len]; omega)).fin (v' := w8) (by rw [ew8]; rfl) (by rw [ew8]; rfl) (by rw [ew8]; rfl) (by rw [ew8]; rfl)
              have bs8 : Beside ob w w8 := by rw [ew8]; exact (Beside.of_new BS.out (p := ⟨qb + 1, 6, none⟩) (by show w.heap.size < qb + 1; omega) _).as rfl rfl rfl rfl
              replace KO := Lib.hid (KO.out.beside b8 (by omega))
              replace KQ := Lib.hid (KQ.out.beside b8 (by omega))
              have KR8 := Lib.hid k8
              replace BS := Lib.hid bs8
              rw [← ew8]
              replace ew8 := Lib.hid ew8
              clear k8 b8 bs8 a0 b0 c0 d0 KR S2k en6
              have em : IntKind.i64.wrap 2 = 2 := by decide
              have KR := Lib.hid (show Held (qb + 1) (mC D 7) w8 by have h := KR8.out; rw [show (.int .i64 (P1 6) : Value) = .int .i64 (D 6) by rw [Dk.out], mC_set D 6 (by omega)] at h; exact h)
              go_wp2
              go_roundw
              case rel => exact ⟨6 + 1, by omega, by first | rfl | go_num, KO, KQ, KR, BS⟩
              case measure => simp [intOf]
            · have kk : ((7 : Nat) : Int) = 7 := rfl
              have c0 : wr.cell? ⟨ob, 10, none⟩ = some (.int .i64 (P 7)) := KO.out.c 10 _ rfl
              have d0 : wr.cell? ⟨qb, 7, none⟩ = some (.int .i64 (OO 7)) := KQ.out.c 7 _ rfl
              have en7 : IntKind.i64.wrap (-(OO 7)) = -(OO 7) := by have := ob1.out 7; exact IntWalk.i64_in _ ⟨by omega, by omega⟩
              have S2k := Lib.hid (S2.out 7)
              have Dk := DD.out 7
              rw [if_neg (by decide)] at Dk
              replace Dk := Lib.hid Dk
              have e9 : (7 : Int) < 9 := by omega
              go_wp2_with fail
              refine region_moves (fun u => u.cell? ⟨ob, 10, none⟩ = some (.int .i64 (P 7)) ∧ u.cell? ⟨qb, 7, none⟩ = some (.int .i64 (OO 7)) ∧ u = wr.drew) [(13, [(12, 13), (11, 13), (0, 13), (1, 13), (2, 13), (3, 13), (4, 13), (5, 13), (6, 13), (7, 13), (8, 13), (9, 13), (10, 13)])] [(.free, 0), (.free, 1), (.free, 2), (.free, 3), (.free, 4), (.free, 5), (.take, 6), (.free, 7), (.free, 8), (.take, 9), (.free, 10), (.step, 11), (.free, 12), (.late, 13)] _ (by kernel_rfl) (by kernel_rfl) (by kernel_rfl) (by kernel_rfl) (by decide) rfl (fun _ _ _ _ _ h => h) ?_
              simp only [List.filterMap_cons, List.filterMap_nil, List.getElem?_toArray, List.getElem?_cons_zero, List.getElem?_cons_succ, Option.map_some]
              iterate 6
                first
                  | (refine mv_free ?_ (Or.inl ⟨by rfl, ?_⟩) (⟨c0, d0, rfl⟩) ?_
                     rotate_left 1
                     · intro u
                       go_simp
                       try simp only [d1]
                       try simp only [d2]
                       try simp only [d3]
                       try with_reducible rfl
                     simp only [Act.put, List.setIfInBounds_toArray, List.set_cons_zero, List.set_cons_succ])
                  | (refine mv_free _ (Or.inr ⟨by rfl, rfl⟩) (⟨c0, d0, rfl⟩) ?_
                     simp only [Act.put, List.setIfInBounds_toArray, List.set_cons_zero, List.set_cons_succ])
              iterate 1
                first
                  | (refine mv_take ?_ (Or.inl ⟨by rfl, ?_⟩) (⟨c0, d0, rfl⟩) ?_
                     rotate_left 1
                     · intro u hu
                       (try dsimp only at hu)
                       go_simp
                       try with_reducible rfl
                     simp only [Act.put, List.setIfInBounds_toArray, List.set_cons_zero, List.set_cons_succ])
                  | (refine mv_take _ (Or.inr ⟨by rfl, rfl⟩) (⟨c0, d0, rfl⟩) ?_
                     simp only [Act.put, List.setIfInBounds_toArray, List.set_cons_zero, List.set_cons_succ])
              iterate 2
                first
                  | (refine mv_free ?_ (Or.inl ⟨by rfl, ?_⟩) (⟨c0, d0, rfl⟩) ?_
                     rotate_left 1
                     · intro u
                       go_simp
                       try simp only [d1]
                       try simp only [d2]
                       try simp only [d3]
                       try with_reducible rfl
                     simp only [Act.put, List.setIfInBounds_toArray, List.set_cons_zero, List.set_cons_succ])
                  | (refine mv_free _ (Or.inr ⟨by rfl, rfl⟩) (⟨c0, d0, rfl⟩) ?_
                     simp only [Act.put, List.setIfInBounds_toArray, List.set_cons_zero, List.set_cons_succ])
              iterate 1
                first
                  | (refine mv_take ?_ (Or.inl ⟨by rfl, ?_⟩) (⟨c0, d0, rfl⟩) ?_
                     rotate_left 1
                     · intro u hu
                       (try dsimp only at hu)
                       go_simp
                       try with_reducible rfl
                     simp only [Act.put, List.setIfInBounds_toArray, List.set_cons_zero, List.set_cons_succ])
                  | (refine mv_take _ (Or.inr ⟨by rfl, rfl⟩) (⟨c0, d0, rfl⟩) ?_
                     simp only [Act.put, List.setIfInBounds_toArray, List.set_cons_zero, List.set_cons_succ])
              iterate 1
                first
                  | (refine mv_free ?_ (Or.inl ⟨by rfl, ?_⟩) (⟨c0, d0, rfl⟩) ?_
                     rotate_left 1
                     · intro u
                       go_simp
                       try simp only [d1]
                       try simp only [d2]
                       try simp only [d3]
                       try with_reducible rfl
                     simp only [Act.put, List.setIfInBounds_toArray, List.set_cons_zero, List.set_cons_succ])
                  | (refine mv_free _ (Or.inr ⟨by rfl, rfl⟩) (⟨c0, d0, rfl⟩) ?_
                     simp only [Act.put, List.setIfInBounds_toArray, List.set_cons_zero, List.set_cons_succ])
              refine mv_step (fun K hK => ?_)
              go_simp
              refine (S2k.out _).mono ?_
              rintro e w' ⟨rfl, rfl⟩
              have a0 : wr.drew.cell? ⟨qb + 1, 7, none⟩ = _ := KR.out.c 7 _ (mC_at D 7 7 (by omega))
              have b0 : wr.drew.frozen? ⟨qb + 1, 7, none⟩ = false := KR.out.f 7 (by rw [mC_len]; omega)
              go_wp2_with fail
              refine hK.out _ _ _ (fun u hu => hu) (⟨c0, d0, rfl⟩) ?_
              clear hK K
              iterate 1
                first
                  | (refine mv_free ?_ (Or.inl ⟨by rfl, ?_⟩) (⟨c0, d0, rfl⟩) ?_
                     rotate_left 1
                     · intro u
                       go_simp
                       try simp only [d1]
                       try simp only [d2]
                       try simp only [d3]
                       try with_reducible rfl
                     simp only [Act.put, List.setIfInBounds_toArray, List.set_cons_zero, List.set_cons_succ])
                  | (refine mv_free _ (Or.inr ⟨by rfl, rfl⟩) (⟨c0, d0, rfl⟩) ?_
                     simp only [Act.put, List.setIfInBounds_toArray, List.set_cons_zero, List.set_cons_succ])
              refine mv_late (fun K hK => ?_)
              go_simp
              refine hK.out (fun _ => True) _ _ ?_
              clear hK K
              refine mv_done ?_
              obtain ⟨w8, ew8⟩ : ∃ w8, w8 = (wr.setCell ⟨qb + 1, 7, none⟩ (.int .i64 (P1 7))).drew := ⟨_, rfl⟩
              obtain ⟨k8, b8⟩ := ((HB.start KR.out).set 7 (.int .i64 (P1 7)) (by rw [mC_len]; omega)).fin (v' := w8) (by rw [ew8]; rfl) (by rw [ew8]; rfl) (by rw [ew8]; rfl) (by rw [ew8]; rfl)
              have bs8 : Beside ob w w8 := by rw [ew8]; exact (Beside.of_new BS.out (p := ⟨qb + 1, 7, none⟩) (by show w.heap.size < qb + 1; omega) _).as rfl rfl rfl rfl
              replace KO := Lib.hid (KO.out.beside b8 (by omega))
              replace KQ := Lib.hid (KQ.out.beside b8 (by omega))
              have KR8 := Lib.hid k8
              replace BS := Lib.hid bs8
              rw [← ew8]
              replace ew8 := Lib.hid ew8
              clear k8 b8 bs8 a0 b0 c0 d0 KR S2k en7
              have em : IntKind.i64.wrap 3 = 3 := by decide
              have KR := Lib.hid (show Held (qb + 1) (mC D 8) w8 by have h := KR8.out; rw [show (.int .i64 (P1 7) : Value) = .int .i64 (D 7) by rw [Dk.out], mC_set D 7 (by omega)] at h; exact h)
              go_wp2
              go_roundw
              case rel => exact ⟨7 + 1, by omega, by first | rfl | go_num, KO, KQ, KR, BS⟩
              case measure => simp [intOf]
            · have kk : ((8 : Nat) : Int) = 8 := rfl
              have c0 : wr.cell? ⟨ob, 11, none⟩ = some (.int .i64 (P 8)) := KO.out.c 11 _ rfl
              have d0 : wr.cell? ⟨qb, 8, none⟩ = some (.int .i64 (OO 8)) := KQ.out.c 8 _ rfl
              have en8 : IntKind.i64.wrap (-(OO 8)) = -(OO 8) := by have := ob1.out 8; exact IntWalk.i64_in _ ⟨by omega, by omega⟩
              have S2k := Lib.hid (S2.out 8)
              have Dk := DD.out 8
              rw [if_pos (by decide)] at Dk
              replace Dk := Lib.hid Dk
              have e9 : (8 : Int) < 9 := by omega
              go_wp2_with fail
              refine region_moves (fun u => u.cell? ⟨ob, 11, none⟩ = some (.int .i64 (P 8)) ∧ u.cell? ⟨qb, 8, none⟩ = some (.int .i64 (OO 8)) ∧ u = wr.drew) [(13, [(12, 13), (11, 13), (0, 13), (1, 13), (2, 13), (3, 13), (4, 13), (5, 13), (6, 13), (7, 13), (8, 13), (9, 13), (10, 13)])] [(.free, 0), (.free, 1), (.free, 2), (.free, 3), (.free, 4), (.free, 5), (.take, 6), (.free, 7), (.free, 8), (.take, 9), (.free, 10), (.step, 11), (.free, 12), (.late, 13)] _ (by kernel_rfl) (by kernel_rfl) (by kernel_rfl) (by kernel_rfl) (by decide) rfl (fun _ _ _ _ _ h => h) ?_
              simp only [List.filterMap_cons, List.filterMap_nil, List.getElem?_toArray, List.getElem?_cons_zero, List.getElem?_cons_succ, Option.map_some]
              iterate 6
                first
                  | (refine mv_free ?_ (Or.inl ⟨by rfl, ?_⟩) (⟨c0, d0, rfl⟩) ?_
                     rotate_left 1
                     · intro u
                       go_simp
                       try simp only [d1]
                       try simp only [d2]
                       try simp only [d3]
                       try with_reducible rfl
                     simp only [Act.put, List.setIfInBounds_toArray, List.set_cons_zero, List.set_cons_succ])
                  | (refine mv_free _ (Or.inr ⟨by rfl, rfl⟩) (⟨c0, d0, rfl⟩) ?_
                     simp only [Act.put, List.setIfInBounds_toArray, List.set_cons_zero, List.set_cons_succ])
              iterate 1
                first
                  | (refine mv_take ?_ (Or.inl ⟨by rfl, ?_⟩) (⟨c0, d0, rfl⟩) ?_
                     rotate_left 1
                     · intro u hu
                       (try dsimp only at hu)
                       go_simp
                       try with_reducible rfl
                     simp only [Act.put, List.setIfInBounds_toArray, List.set_cons_zero, List.set_cons_succ])
                  | (refine mv_take _ (Or.inr ⟨by rfl, rfl⟩) (⟨c0, d0, rfl⟩) ?_
                     simp only [Act.put, List.setIfInBounds_toArray, List.set_cons_zero, List.set_cons_succ])
              iterate 2
                first
                  | (refine mv_free ?_ (Or.inl ⟨by rfl, ?_⟩) (⟨c0, d0, rfl⟩) ?_
                     rotate_left 1
                     · intro u
                       go_simp
                       try simp only [d1]
                       try simp only [d2]
                       try simp only [d3]
                       try with_reducible rfl
                     simp only [Act.put, List.setIfInBounds_toArray, List.set_cons_zero, List.set_cons_succ])
                  | (refine mv_free _ (Or.inr ⟨by rfl, rfl⟩) (⟨c0, d0, rfl⟩) ?_
                     simp only [Act.put, List.setIfInBounds_toArray, List.set_cons_zero, List.set_cons_succ])
              iterate 1
                first
                  | (refine mv_take ?_ (Or.inl ⟨by rfl, ?_⟩) (⟨c0, d0, rfl⟩) ?_
                     rotate_left 1
                     · intro u hu
                       (try dsimp only at hu)
                       go_simp
                       try with_reducible rfl
                     simp only [Act.put, List.setIfInBounds_toArray, List.set_cons_zero, List.set_cons_succ])
                  | (refine mv_take _ (Or.inr ⟨by rfl, rfl⟩) (⟨c0, d0, rfl⟩) ?_
                     simp only [Act.put, List.setIfInBounds_toArray, List.set_cons_zero, List.set_cons_succ])
              iterate 1
                first
                  | (refine mv_free ?_ (Or.inl ⟨by rfl, ?_⟩) (⟨c0, d0, rfl⟩) ?_
                     rotate_left 1
                     · intro u
                       go_simp
                       try simp only [d1]
                       try simp only [d2]
                       try simp only [d3]
                       try with_reducible rfl
                     simp only [Act.put, List.setIfInBounds_toArray, List.set_cons_zero, List.set_cons_succ])
                  | (refine mv_free _ (Or.inr ⟨by rfl, rfl⟩) (⟨c0, d0, rfl⟩) ?_
                     simp only [Act.put, List.setIfInBounds_toArray, List.set_cons_zero, List.set_cons_succ])
              refine mv_step (fun K hK => ?_)
              go_simp
              refine (S2k.out _).mono ?_
              rintro e w' ⟨rfl, rfl⟩
              have a0 : wr.drew.cell? ⟨qb + 1, 8, none⟩ = _ := KR.out.c 8 _ (mC_at D 8 8 (by omega))
              have b0 : wr.drew.frozen? ⟨qb + 1, 8, none⟩ = false := KR.out.f 8 (by rw [mC_len]; omega)
              go_wp2_with fail
              refine hK.out _ _ _ (fun u hu => hu) (⟨c0, d0, rfl⟩) ?_
              clear hK K
              iterate 1
                first
                  | (refine mv_free ?_ (Or.inl ⟨by rfl, ?_⟩) (⟨c0, d0, rfl⟩) ?_
                     rotate_left 1
                     · intro u
                       go_simp
                       try simp only [d1]
                       try simp only [d2]
                       try simp only [d3]
                       try with_reducible rfl
                     simp only [Act.put, List.setIfInBounds_toArray, List.set_cons_zero, List.set_cons_succ])
                  | (refine mv_free _ (Or.inr ⟨by rfl, rfl⟩) (⟨c0, d0, rfl⟩) ?_
                     simp only [Act.put, List.setIfInBounds_toArray, List.set_cons_zero, List.set_cons_succ])
              refine mv_late (fun K hK => ?_)
              go_simp
              refine hK.out (fun _ => True) _ _ ?_
              clear hK K
              refine mv_done ?_
              obtain ⟨w8, ew8⟩ : ∃ w8, w8 = (wr.setCell ⟨qb + 1, 8, none⟩ (.int .i64 (P1 8))).drew := ⟨_, rfl⟩
              obtain ⟨k8, b8⟩ := ((HB.start KR.out).set 8 (.int .i64 (P1 8)) (by rw [mC_len]; omega)).fin (v' := w8) (by rw [ew8]; rfl) (by rw [ew8]; rfl) (by rw [ew8]; rfl) (by rw [ew8]; rfl)
              have bs8 : Beside ob w w8 := by rw [ew8]; exact (Beside.of_new BS.out (p := ⟨qb + 1, 8, none⟩) (by show w.heap.size < qb + 1; omega) _).as rfl rfl rfl rfl
              replace KO := Lib.hid (KO.out.beside b8 (by omega))
              replace KQ := Lib.hid (KQ.out.beside b8 (by omega))
              have KR8 := Lib.hid k8
              replace BS := Lib.hid bs8
              rw [← ew8]
              replace ew8 := Lib.hid ew8
              clear k8 b8 bs8 a0 b0 c0 d0 KR S2k en8
              have a0 : w8.cell? ⟨qb + 1, 8, none⟩ = some (.int .i64 (P1 8)) := KR8.out.c 8 _ (List.getElem?_set_self (by simp [mC_len]))
              have b0 := KR8.out.f 8 (by rw [List.length_set, mC_len]; omega)
              have em : IntKind.i64.wrap 0 = 0 := by decide
              rcases (show P1 8 < 0 ∨ 0 ≤ P1 8 by omega) with hp | hp
              · obtain ⟨w9, ew9⟩ : ∃ w9, w9 = w8.setCell ⟨qb + 1, 8, none⟩ (.int .i64 0) := ⟨_, rfl⟩
                have hD : D 8 = 0 := by rw [Dk.out, if_pos hp]
                obtain ⟨k9, b9⟩ := (((HB.start KR8.out).set 8 (.int .i64 0) (by rw [List.length_set, mC_len]; omega)).is (show _ = mC D 9 from (congrArg (fun q => ((mC D 8).set 8 (.int .i64 (P1 8))).set 8 (.int .i64 q)) hD.symm).trans (kq_set8 D (P1 8)))).fin (v' := w9) (by rw [ew9]) (by rw [ew9]) (by rw [ew9]) (by rw [ew9])
                have bs9 : Beside ob w w9 := by rw [ew9]; exact Beside.of_new BS.out (p := ⟨qb + 1, 8, none⟩) (by show w.heap.size < qb + 1; omega) _
                replace KO := Lib.hid (KO.out.beside b9 (by omega))
                replace KQ := Lib.hid (KQ.out.beside b9 (by omega))
                have KR := Lib.hid k9
                replace BS := Lib.hid bs9
                replace hD := Lib.hid hD
                clear k9 b9 bs9
                go_upto_region 24 with (fail)
                rw [← ew9]
                replace ew9 := Lib.hid ew9
                clear a0 b0
                go_wp2
                go_roundw
                case rel => exact ⟨8 + 1, by omega, by first | rfl | go_num, KO, KQ, KR, BS⟩
                case measure => simp [intOf]
              · have KR := Lib.hid (show Held (qb + 1) (mC D 9) w8 by have h := KR8.out; rw [show (.int .i64 (P1 8) : Value) = .int .i64 (D 8) by rw [Dk.out, if_neg (by omega)], mC_set D 8 (by omega)] at h; exact h)
                go_wp2
                go_roundw
                case rel => exact ⟨8 + 1, by omega, by first | rfl | go_num, KO, KQ, KR, BS⟩
                case measure => simp [intOf]
            · have kk : ((9 : Nat) : Int) = 9 := rfl
              rw [mC_all] at KR
              have rr := KR.out
              have c0 := rr.c 0 _ rfl
              have f0 := rr.f 0 (by simp)
              have c1 := rr.c 1 _ rfl
              have f1 := rr.f 1 (by simp)
              have c2 := rr.c 2 _ rfl
              have f2 := rr.f 2 (by simp)
              have c3 := rr.c 3 _ rfl
              have f3 := rr.f 3 (by simp)
              have c4 := rr.c 4 _ rfl
              have f4 := rr.f 4 (by simp)
              have c5 := rr.c 5 _ rfl
              have f5 := rr.f 5 (by simp)
              have c6 := rr.c 6 _ rfl
              have f6 := rr.f 6 (by simp)
              have c7 := rr.c 7 _ rfl
              have f7 := rr.f 7 (by simp)
              have c8 := rr.c 8 _ rfl
              have f8 := rr.f 8 (by simp)
              clear rr
              go_upto_region 31 with (fail)
              obtain ⟨w8, ew8⟩ : ∃ w8, w8 = (((wr.setCell ⟨qb + 1, 3, none⟩ (.int .i64 (D 1))).setCell ⟨qb + 1, 6, none⟩ (.int .i64 (D 2))).setCell ⟨qb + 1, 7, none⟩ (.int .i64 (D 5))) := ⟨_, rfl⟩
              obtain ⟨k8, b8⟩ := (((((HB.start KR.out).set 3 (.int .i64 (D 1)) (by simp)).set 6 (.int .i64 (D 2)) (by simp)).set 7 (.int .i64 (D 5)) (by simp)).is (show _ = [.int .i64 (D 0), .int .i64 (D 1), .int .i64 (D 2), .int .i64 (D 1), .int .i64 (D 4), .int .i64 (D 5), .int .i64 (D 2), .int .i64 (D 5), .int .i64 (D 8)] from rfl)).fin (v' := w8) (by rw [ew8]) (by rw [ew8]) (by rw [ew8]) (by rw [ew8])
              have bs8 : Beside ob w w8 := by rw [ew8]; exact Beside.of_new (Beside.of_new (Beside.of_new BS.out (p := ⟨qb + 1, 3, none⟩) (by show w.heap.size < qb + 1; omega) _) (p := ⟨qb + 1, 6, none⟩) (by show w.heap.size < qb + 1; omega) _) (p := ⟨qb + 1, 7, none⟩) (by show w.heap.size < qb + 1; omega) _
              replace KO := Lib.hid (KO.out.beside b8 (by omega))
              have KR8 := Lib.hid k8
              replace BS := Lib.hid bs8
              rw [← ew8]
              replace ew8 := Lib.hid ew8
              clear k8 b8 bs8 KR c0 f0 c1 f1 c2 f2 c3 f3 c4 f4 c5 f5 c6 f6 c7 f7 c8 f8
              have hh_ := KR8.out
              obtain ⟨c0, f0⟩ := hh_.one 0 rfl
              obtain ⟨c1, f1⟩ := hh_.one 1 rfl
              obtain ⟨c2, f2⟩ := hh_.one 2 rfl
              obtain ⟨c3, f3⟩ := hh_.one 3 rfl
              obtain ⟨c4, f4⟩ := hh_.one 4 rfl
              obtain ⟨c5, f5⟩ := hh_.one 5 rfl
              obtain ⟨c6, f6⟩ := hh_.one 6 rfl
              obtain ⟨c7, f7⟩ := hh_.one 7 rfl
              obtain ⟨c8, f8⟩ := hh_.one 8 rfl
              clear hh_
              have ko := KO.out
              have x3 := ko.c 3 _ rfl
              have y3 := ko.f 3 (by simp [KeC])
              have x4 := ko.c 4 _ rfl
              have y4 := ko.f 4 (by simp [KeC])
              have x5 := ko.c 5 _ rfl
              have y5 := ko.f 5 (by simp [KeC])
              have x6 := ko.c 6 _ rfl
              have y6 := ko.f 6 (by simp [KeC])
              have x7 := ko.c 7 _ rfl
              have y7 := ko.f 7 (by simp [KeC])
              have x8 := ko.c 8 _ rfl
              have y8 := ko.f 8 (by simp [KeC])
              have x9 := ko.c 9 _ rfl
              have y9 := ko.f 9 (by simp [KeC])
              have x10 := ko.c 10 _ rfl
              have y10 := ko.f 10 (by simp [KeC])
              have x11 := ko.c 11 _ rfl
              have y11 := ko.f 11 (by simp [KeC])
              have x13 := ko.c 13 _ rfl
              have y13 := ko.f 13 (by simp [KeC])
              clear ko
              have ewt : IntKind.i64.wrap (tk + 1) = tk + 1 := IntWalk.i64_in _ ⟨by omega, by omega⟩
              go_upto_region 32 with (fail)
              obtain ⟨w9, ew9⟩ : ∃ w9, w9 = (((((((((w8.setCell ⟨ob, 3, none⟩ (.int .i64 (D 0))).setCell ⟨ob, 4, none⟩ (.int .i64 (D 1))).setCell ⟨ob, 5, none⟩ (.int .i64 (D 2))).setCell ⟨ob, 6, none⟩ (.int .i64 (D 1))).setCell ⟨ob, 7, none⟩ (.int .i64 (D 4))).setCell ⟨ob, 8, none⟩ (.int .i64 (D 5))).setCell ⟨ob, 9, none⟩ (.int .i64 (D 2))).setCell ⟨ob, 10, none⟩ (.int .i64 (D 5))).setCell ⟨ob, 11, none⟩ (.int .i64 (D 8))) := ⟨_, rfl⟩
              obtain ⟨k9, b9⟩ := (((((((((((HB.start KO.out).set 3 (.int .i64 (D 0)) (by simp [KeC])).set 4 (.int .i64 (D 1)) (by simp [KeC])).set 5 (.int .i64 (D 2)) (by simp [KeC])).set 6 (.int .i64 (D 1)) (by simp [KeC])).set 7 (.int .i64 (D 4)) (by simp [KeC])).set 8 (.int .i64 (D 5)) (by simp [KeC])).set 9 (.int .i64 (D 2)) (by simp [KeC])).set 10 (.int .i64 (D 5)) (by simp [KeC])).set 11 (.int .i64 (D 8)) (by simp [KeC])).is (show _ = KeC X2 (mir D) g tk rf from rfl)).fin (v' := w9) (by rw [ew9]) (by rw [ew9]) (by rw [ew9]) (by rw [ew9])
              replace KO := Lib.hid k9
              replace BS := Lib.hid (BS.out.trans b9)
              rw [← ew9]
              replace ew9 := Lib.hid ew9
              clear k9 b9 KR8 c0 f0 x3 y3 c1 f1 x4 y4 c2 f2 x5 y5 c3 f3 x6 y6 c4 f4 x7 y7 c5 f5 x8 y8 c6 f6 x9 y9 c7 f7 x10 y10 c8 f8 x11 y11 x13 y13
              have x13 := KO.out.c 13 _ rfl
              have y13 := KO.out.f 13 (by simp [KeC])
              go_upto_region 33 with (fail)
              obtain ⟨w10, ew10⟩ : ∃ w10, w10 = w9.setCell ⟨ob, 13, none⟩ (.int .i64 (tk + 1)) := ⟨_, rfl⟩
              obtain ⟨k10, b10⟩ := (((HB.start KO.out).set 13 (.int .i64 (tk + 1)) (by simp [KeC])).is (show _ = KeC X2 (mir D) g (tk + 1) rf from rfl)).fin (v' := w10) (by rw [ew10]) (by rw [ew10]) (by rw [ew10]) (by rw [ew10])
              rw [← ew10]
              replace ew10 := Lib.hid ew10
              have K10 := Lib.hid k10
              replace BS := Lib.hid (BS.out.trans b10)
              clear k10 b10 KO x13 y13
              go_wp2
              go_ret
              exact ⟨rfl, FE.out ▸ K10.out, BS.out⟩
end Go.Proofs.Ytakocggclopngaa
