/- The law TallySteps, walked. -/
import Derived.Test.YtifbedliibhmoaaTally3
import Derived.Test.YtifbedliibhmoaaBeside
import Derived.Test.YtifbedliibhmoaaHb
import Derived.Test.YtifbedliibhmoaaReg
namespace Go.Proofs.Ytifbedliibhmoaa
open Go.ChangeShapes Go.WideShapes Go.ChangeAt Go.RowKit
set_option linter.unusedVariables false
set_option linter.unusedSimpArgs false

set_option maxRecDepth 100000 in
set_option maxHeartbeats 4000000 in
theorem law_TallySteps (u d s m : Int) (a : Option Addr) (cap : Nat) (l : List Int) (w : World) (hrow : RowIs .i64 w a l) (hl : l.length ≤ maxLen) :
    Calls Try.prog 7 #[.agg #[.int .i64 u, .int .i64 d, .int .i64 s, .int .i64 m], .slice a l.length cap] w fun e w' => e = .returned (.bool true) ∧ Below w.heap.size w w' := by
  unfold maxLen at hl
  have hq0 := Held.new w [.int .i64 u, .int .i64 d, .int .i64 s, .int .i64 m] 45
  have hb0 : Below w.heap.size w (w.alloc (.cells #[.int .i64 u, .int .i64 d, .int .i64 s, .int .i64 m] 45)) := (Below.refl _ _).alloc (Nat.le_refl _) _
  cases hR : tlR u d s m
  · go_enter Try.func7, Try.ntmps7
    go_wp2_with fail
    refine (tnew_no u d s m _ hR).mono ?_
    rintro e w1 ⟨rfl, hb1⟩
    have hb1 := hb0.trans (hb1.mono hb0.size)
    go_wp2_with (go_at_call 29; refine (lives22 _).mono ?_; rintro e w1 ⟨rfl, hb2⟩)
    go_ret
    exact ⟨rfl, hb1.trans (hb2.mono hb1.size)⟩
  · have ok := tlR_ok hR
    have s1 := ok.s1
    have m1 := ok.m1
    go_enter Try.func7, Try.ntmps7
    go_wp2_with fail
    refine (tnew_ok u d s m _ hR).mono ?_
    rintro e w1 ⟨b, hb, rfl, k1, hb1⟩
    have hq1 := hq0.bel hb1
    have hbel1 := hb0.trans (hb1.mono hb0.size)
    have hbw : w.heap.size < b := by simp at hb; omega
    clear hq0 hb0 hb1 hb
    obtain ⟨q0, f0⟩ := hq1.one 0 rfl
    obtain ⟨q1, f1⟩ := hq1.one 1 rfl
    obtain ⟨q2, f2⟩ := hq1.one 2 rfl
    obtain ⟨q3, f3⟩ := hq1.one 3 rfl
    by_cases hbig : 200 < l.length
    · go_wp2_with (go_at_call 29; refine (lives22 _).mono ?_; rintro e w1 ⟨rfl, hb2⟩)
      go_ret
      exact ⟨rfl, hbel1.trans (hb2.mono hbel1.size)⟩
    · go_wp2_with fail
      obtain ⟨bm, ebm⟩ : ∃ bm, w1.heap.size = bm := ⟨_, rfl⟩
      have hbm : b ≠ bm := by have := k1.lt; omega
      have hwm : w.heap.size < bm := by have := hq1.lt; omega
      rw [ebm]
      go_loopw [8] (fun i v => ∃ (k : Nat) (n : Int) (ld : Bool), k ≤ l.length ∧ i = .int .i64 k ∧ 0 ≤ n ∧ n ≤ m ∧ Held b (tlC u d s m n ld) v ∧ Held bm (tlC u d s m n ld) v ∧ Held w.heap.size [.int .i64 u, .int .i64 d, .int .i64 s, .int .i64 m] v ∧ Below w.heap.size w v) (fun i _ => l.length - (intOf i).toNat)
      case atStart =>
        refine ⟨0, 0, false, Nat.zero_le _, rfl, by omega, by omega, k1.alloc _, ?_, hq1.alloc _, hbel1.alloc hbel1.size _⟩
        rw [← ebm]
        exact Held.new w1 (tlC u d s m 0 false) _
      case round =>
        clear q0 q1 q2 q3 f0 f1 f2 f3 k1 hq1 hbel1
        obtain ⟨k, n, ld, hk, rfl, n0, nm, kk, km, hq, hbel⟩ := hrel
        by_cases hlt : k < l.length
        · obtain ⟨rb, off, rfl, hrb, hcell⟩ := hrow.at hlt
          have hc1 : wr.cell? ⟨rb, off + k, none⟩ = some (.int .i64 (l.getD k 0)) := (bc hbel hrb).trans hcell
          generalize l.getD k 0 = x at hcell hc1
          clear hrow
          cases z2 : (x == 2)
          · cases hx : decide (0 < x)
            · go_wp2_with fail
              refine region_moves (fun _ => True) [] [(.take, 0), (.take, 1), (.take, 3), (.step, 2), (.step, 4), (.take, 5), (.take, 6), (.take, 7), (.take, 9), (.take, 10), (.step, 8), (.take, 11), (.take, 12), (.take, 13), (.take, 14), (.take, 16), (.take, 17), (.step, 15), (.take, 18), (.take, 19)] _ (by kernel_rfl) (by kernel_rfl) (by kernel_rfl) (by kernel_rfl) (by decide) rfl (fun _ _ _ _ _ h => h) ?_
              simp only [List.filterMap_cons, List.filterMap_nil, List.getElem?_toArray, List.getElem?_cons_zero, List.getElem?_cons_succ, Option.map_some]
              iterate 3
                first
                  | (refine mv_take ?_ (Or.inl ⟨by rfl, ?_⟩) (trivial) ?_
                     rotate_left 1
                     · intro u hu
                       (try dsimp only at hu)
                       go_simp
                       try with_reducible rfl
                     simp only [Act.put, List.setIfInBounds_toArray, List.set_cons_zero, List.set_cons_succ])
                  | (refine mv_take _ (Or.inr ⟨by rfl, rfl⟩) (trivial) ?_
                     simp only [Act.put, List.setIfInBounds_toArray, List.set_cons_zero, List.set_cons_succ])
              refine mv_step (fun K hK => ?_)
              go_simp
              refine (tstep_any b false _ (Held.drew kk) ok n0 nm).mono ?_
              rintro e w3 ⟨rfl, k3, o3⟩
              go_wp2_with fail
              have km3 := (Held.drew km).only o3 (by omega)
              have hq3 := (Held.drew hq).only o3 (by omega)
              have hb3 : Below w.heap.size w w3 := (Below.drew hbel).trans (o3.below (by omega))
              refine hK.out _ _ _ (fun u hu => hu) (trivial) ?_
              clear hK K
              refine mv_step (fun K hK => ?_)
              go_simp
              refine (rtstep_any bm false _ km3 ok n0 nm).mono ?_
              rintro e w4 ⟨rfl, km4, o4⟩
              go_wp2_with fail
              have k4 := k3.only o4 (by omega)
              have hq4 := hq3.only o4 (by omega)
              have hb4 : Below w.heap.size w w4 := hb3.trans (o4.below (by omega))
              have nb := tnx_bd ok n0 nm false
              clear k3 km3 hq3 hb3 o3 o4
              generalize tnx u d m n false = n' at *
              generalize (ld || decide (s ≤ n')) = ld' at *
              obtain ⟨c0, f0⟩ := km4.one 0 rfl
              obtain ⟨c1, f1⟩ := km4.one 1 rfl
              obtain ⟨c2, f2⟩ := km4.one 2 rfl
              obtain ⟨c3, f3⟩ := km4.one 3 rfl
              obtain ⟨c4, f4⟩ := km4.one 4 rfl
              obtain ⟨c5, f5⟩ := km4.one 5 rfl
              refine hK.out (fun u => u = w4) _ _ (fun _ _ => trivial) (rfl) ?_
              clear hK K
              iterate 5
                first
                  | (refine mv_take ?_ (Or.inl ⟨by rfl, ?_⟩) (rfl) ?_
                     rotate_left 1
                     · intro u hu
                       (try dsimp only at hu)
                       go_simp
                       try with_reducible rfl
                     simp only [Act.put, List.setIfInBounds_toArray, List.set_cons_zero, List.set_cons_succ])
                  | (refine mv_take _ (Or.inr ⟨by rfl, rfl⟩) (rfl) ?_
                     simp only [Act.put, List.setIfInBounds_toArray, List.set_cons_zero, List.set_cons_succ])
              refine mv_step (fun K hK => ?_)
              go_simp
              refine (tnum_any b _ k4).mono ?_
              rintro e w' ⟨rfl, rfl⟩
              go_wp2_with fail
              refine hK.out _ _ _ (fun u hu => hu) (rfl) ?_
              clear hK K
              iterate 6
                first
                  | (refine mv_take ?_ (Or.inl ⟨by rfl, ?_⟩) (rfl) ?_
                     rotate_left 1
                     · intro u hu
                       (try dsimp only at hu)
                       go_simp
                       try with_reducible rfl
                     simp only [Act.put, List.setIfInBounds_toArray, List.set_cons_zero, List.set_cons_succ])
                  | (refine mv_take _ (Or.inr ⟨by rfl, rfl⟩) (rfl) ?_
                     simp only [Act.put, List.setIfInBounds_toArray, List.set_cons_zero, List.set_cons_succ])
              refine mv_step (fun K hK => ?_)
              go_simp
              refine (tlat_any b _ k4).mono ?_
              rintro e w' ⟨rfl, rfl⟩
              go_wp2_with fail
              refine hK.out _ _ _ (fun u hu => hu) (rfl) ?_
              clear hK K
              iterate 2
                first
                  | (refine mv_take ?_ (Or.inl ⟨by rfl, ?_⟩) (rfl) ?_
                     rotate_left 1
                     · intro u hu
                       (try dsimp only at hu)
                       go_simp
                       try with_reducible rfl
                     simp only [Act.put, List.setIfInBounds_toArray, List.set_cons_zero, List.set_cons_succ])
                  | (refine mv_take _ (Or.inr ⟨by rfl, rfl⟩) (rfl) ?_
                     simp only [Act.put, List.setIfInBounds_toArray, List.set_cons_zero, List.set_cons_succ])
              refine mv_done ?_
              go_wp2
              go_roundw
              case rel => exact ⟨k + 1, n', ld', by omega, by go_num, nb.1, nb.2, k4, km4, hq4, hb4⟩
              case measure => simp [intOf]; omega
            · go_wp2_with fail
              refine region_moves (fun _ => True) [] [(.take, 0), (.take, 1), (.take, 3), (.step, 2), (.step, 4), (.take, 5), (.take, 6), (.take, 7), (.take, 9), (.take, 10), (.step, 8), (.take, 11), (.take, 12), (.take, 13), (.take, 14), (.take, 16), (.take, 17), (.step, 15), (.take, 18), (.take, 19)] _ (by kernel_rfl) (by kernel_rfl) (by kernel_rfl) (by kernel_rfl) (by decide) rfl (fun _ _ _ _ _ h => h) ?_
              simp only [List.filterMap_cons, List.filterMap_nil, List.getElem?_toArray, List.getElem?_cons_zero, List.getElem?_cons_succ, Option.map_some]
              iterate 3
                first
                  | (refine mv_take ?_ (Or.inl ⟨by rfl, ?_⟩) (trivial) ?_
                     rotate_left 1
                     · intro u hu
                       (try dsimp only at hu)
                       go_simp
                       try with_reducible rfl
                     simp only [Act.put, List.setIfInBounds_toArray, List.set_cons_zero, List.set_cons_succ])
                  | (refine mv_take _ (Or.inr ⟨by rfl, rfl⟩) (trivial) ?_
                     simp only [Act.put, List.setIfInBounds_toArray, List.set_cons_zero, List.set_cons_succ])
              refine mv_step (fun K hK => ?_)
              go_simp
              refine (tstep_any b true _ (Held.drew kk) ok n0 nm).mono ?_
              rintro e w3 ⟨rfl, k3, o3⟩
              go_wp2_with fail
              have km3 := (Held.drew km).only o3 (by omega)
              have hq3 := (Held.drew hq).only o3 (by omega)
              have hb3 : Below w.heap.size w w3 := (Below.drew hbel).trans (o3.below (by omega))
              refine hK.out _ _ _ (fun u hu => hu) (trivial) ?_
              clear hK K
              refine mv_step (fun K hK => ?_)
              go_simp
              refine (rtstep_any bm true _ km3 ok n0 nm).mono ?_
              rintro e w4 ⟨rfl, km4, o4⟩
              go_wp2_with fail
              have k4 := k3.only o4 (by omega)
              have hq4 := hq3.only o4 (by omega)
              have hb4 : Below w.heap.size w w4 := hb3.trans (o4.below (by omega))
              have nb := tnx_bd ok n0 nm true
              clear k3 km3 hq3 hb3 o3 o4
              generalize tnx u d m n true = n' at *
              generalize (ld || decide (s ≤ n')) = ld' at *
              obtain ⟨c0, f0⟩ := km4.one 0 rfl
              obtain ⟨c1, f1⟩ := km4.one 1 rfl
              obtain ⟨c2, f2⟩ := km4.one 2 rfl
              obtain ⟨c3, f3⟩ := km4.one 3 rfl
              obtain ⟨c4, f4⟩ := km4.one 4 rfl
              obtain ⟨c5, f5⟩ := km4.one 5 rfl
              refine hK.out (fun u => u = w4) _ _ (fun _ _ => trivial) (rfl) ?_
              clear hK K
              iterate 5
                first
                  | (refine mv_take ?_ (Or.inl ⟨by rfl, ?_⟩) (rfl) ?_
                     rotate_left 1
                     · intro u hu
                       (try dsimp only at hu)
                       go_simp
                       try with_reducible rfl
                     simp only [Act.put, List.setIfInBounds_toArray, List.set_cons_zero, List.set_cons_succ])
                  | (refine mv_take _ (Or.inr ⟨by rfl, rfl⟩) (rfl) ?_
                     simp only [Act.put, List.setIfInBounds_toArray, List.set_cons_zero, List.set_cons_succ])
              refine mv_step (fun K hK => ?_)
              go_simp
              refine (tnum_any b _ k4).mono ?_
              rintro e w' ⟨rfl, rfl⟩
              go_wp2_with fail
              refine hK.out _ _ _ (fun u hu => hu) (rfl) ?_
              clear hK K
              iterate 6
                first
                  | (refine mv_take ?_ (Or.inl ⟨by rfl, ?_⟩) (rfl) ?_
                     rotate_left 1
                     · intro u hu
                       (try dsimp only at hu)
                       go_simp
                       try with_reducible rfl
                     simp only [Act.put, List.setIfInBounds_toArray, List.set_cons_zero, List.set_cons_succ])
                  | (refine mv_take _ (Or.inr ⟨by rfl, rfl⟩) (rfl) ?_
                     simp only [Act.put, List.setIfInBounds_toArray, List.set_cons_zero, List.set_cons_succ])
              refine mv_step (fun K hK => ?_)
              go_simp
              refine (tlat_any b _ k4).mono ?_
              rintro e w' ⟨rfl, rfl⟩
              go_wp2_with fail
              refine hK.out _ _ _ (fun u hu => hu) (rfl) ?_
              clear hK K
              iterate 2
                first
                  | (refine mv_take ?_ (Or.inl ⟨by rfl, ?_⟩) (rfl) ?_
                     rotate_left 1
                     · intro u hu
                       (try dsimp only at hu)
                       go_simp
                       try with_reducible rfl
                     simp only [Act.put, List.setIfInBounds_toArray, List.set_cons_zero, List.set_cons_succ])
                  | (refine mv_take _ (Or.inr ⟨by rfl, rfl⟩) (rfl) ?_
                     simp only [Act.put, List.setIfInBounds_toArray, List.set_cons_zero, List.set_cons_succ])
              refine mv_done ?_
              go_wp2
              go_roundw
              case rel => exact ⟨k + 1, n', ld', by omega, by go_num, nb.1, nb.2, k4, km4, hq4, hb4⟩
              case measure => simp [intOf]; omega
          · go_wp2_with fail
            refine (tclear_any b _ kk).mono ?_
            rintro e w2 ⟨rfl, k2, o2⟩
            have km2 := km.only o2 (by omega)
            have hq2 := hq.only o2 (by omega)
            have hb2 : Below w.heap.size w w2 := hbel.trans (o2.below (by omega))
            have hc2 : w2.cell? ⟨rb, off + k, none⟩ = some (.int .i64 x) := (bc hb2 hrb).trans hcell
            obtain ⟨q0, f0⟩ := hq2.one 0 rfl
            obtain ⟨q1, f1⟩ := hq2.one 1 rfl
            obtain ⟨q2, f2⟩ := hq2.one 2 rfl
            obtain ⟨q3, f3⟩ := hq2.one 3 rfl
            obtain ⟨p0, g0⟩ := km2.one 0 rfl
            obtain ⟨p1, g1⟩ := km2.one 1 rfl
            obtain ⟨p2, g2⟩ := km2.one 2 rfl
            obtain ⟨p3, g3⟩ := km2.one 3 rfl
            obtain ⟨p4, g4⟩ := km2.one 4 rfl
            obtain ⟨p5, g5⟩ := km2.one 5 rfl
            have z0 : (0 : Int) ≤ 0 := by omega
            have zm : (0 : Int) ≤ m := by omega
            cases hx : decide (0 < x)
            · go_wp2_with fail
              have hv : HB bm (tlC u d s m 0 false) w2 ((((((w2.setCell ⟨bm, 0, none⟩ (.int .i64 u)).setCell ⟨bm, 1, none⟩ (.int .i64 d)).setCell ⟨bm, 2, none⟩ (.int .i64 s)).setCell ⟨bm, 3, none⟩ (.int .i64 m)).setCell ⟨bm, 4, none⟩ (.int .i64 0)).setCell ⟨bm, 5, none⟩ (.bool false)) := ((((((HB.start km2).set 0 (.int .i64 u) (by simp [tlC])).set 1 (.int .i64 d) (by simp [tlC])).set 2 (.int .i64 s) (by simp [tlC])).set 3 (.int .i64 m) (by simp [tlC])).set 4 (.int .i64 0) (by simp [tlC])).set 5 (.bool false) (by simp [tlC])
              generalize ((((((w2.setCell ⟨bm, 0, none⟩ (.int .i64 u)).setCell ⟨bm, 1, none⟩ (.int .i64 d)).setCell ⟨bm, 2, none⟩ (.int .i64 s)).setCell ⟨bm, 3, none⟩ (.int .i64 m)).setCell ⟨bm, 4, none⟩ (.int .i64 0)).setCell ⟨bm, 5, none⟩ (.bool false)) = v at *
              have km5 := hv.held
              have k5 := Held.beside k2 hv.beside hbm
              have hq5 := Held.beside hq2 hv.beside (by omega)
              have hb5 : Below w.heap.size w v := Below.beside hb2 hv.beside (by omega)
              clear hv km2 k2 hq2 hb2 hc2 q0 q1 q2 q3 f0 f1 f2 f3 p0 p1 p2 p3 p4 p5 g0 g1 g2 g3 g4 g5
              refine region_moves (fun _ => True) [] [(.take, 0), (.take, 1), (.take, 3), (.step, 2), (.step, 4), (.take, 5), (.take, 6), (.take, 7), (.take, 9), (.take, 10), (.step, 8), (.take, 11), (.take, 12), (.take, 13), (.take, 14), (.take, 16), (.take, 17), (.step, 15), (.take, 18), (.take, 19)] _ (by kernel_rfl) (by kernel_rfl) (by kernel_rfl) (by kernel_rfl) (by decide) rfl (fun _ _ _ _ _ h => h) ?_
              simp only [List.filterMap_cons, List.filterMap_nil, List.getElem?_toArray, List.getElem?_cons_zero, List.getElem?_cons_succ, Option.map_some]
              iterate 3
                first
                  | (refine mv_take ?_ (Or.inl ⟨by rfl, ?_⟩) (trivial) ?_
                     rotate_left 1
                     · intro u hu
                       (try dsimp only at hu)
                       go_simp
                       try with_reducible rfl
                     simp only [Act.put, List.setIfInBounds_toArray, List.set_cons_zero, List.set_cons_succ])
                  | (refine mv_take _ (Or.inr ⟨by rfl, rfl⟩) (trivial) ?_
                     simp only [Act.put, List.setIfInBounds_toArray, List.set_cons_zero, List.set_cons_succ])
              refine mv_step (fun K hK => ?_)
              go_simp
              refine (tstep_any b false _ (Held.drew k5) ok z0 zm).mono ?_
              rintro e w3 ⟨rfl, k3, o3⟩
              go_wp2_with fail
              have km3 := (Held.drew km5).only o3 (by omega)
              have hq3 := (Held.drew hq5).only o3 (by omega)
              have hb3 : Below w.heap.size w w3 := (Below.drew hb5).trans (o3.below (by omega))
              refine hK.out _ _ _ (fun u hu => hu) (trivial) ?_
              clear hK K
              refine mv_step (fun K hK => ?_)
              go_simp
              refine (rtstep_any bm false _ km3 ok z0 zm).mono ?_
              rintro e w4 ⟨rfl, km4, o4⟩
              go_wp2_with fail
              have k4 := k3.only o4 (by omega)
              have hq4 := hq3.only o4 (by omega)
              have hb4 : Below w.heap.size w w4 := hb3.trans (o4.below (by omega))
              have nb := tnx_bd ok z0 zm false
              clear k3 km3 hq3 hb3 o3 o4
              generalize tnx u d m 0 false = n' at *
              simp only [Bool.false_or] at *
              generalize decide (s ≤ n') = ld' at *
              obtain ⟨c0, f0⟩ := km4.one 0 rfl
              obtain ⟨c1, f1⟩ := km4.one 1 rfl
              obtain ⟨c2, f2⟩ := km4.one 2 rfl
              obtain ⟨c3, f3⟩ := km4.one 3 rfl
              obtain ⟨c4, f4⟩ := km4.one 4 rfl
              obtain ⟨c5, f5⟩ := km4.one 5 rfl
              refine hK.out (fun u => u = w4) _ _ (fun _ _ => trivial) (rfl) ?_
              clear hK K
              iterate 5
                first
                  | (refine mv_take ?_ (Or.inl ⟨by rfl, ?_⟩) (rfl) ?_
                     rotate_left 1
                     · intro u hu
                       (try dsimp only at hu)
                       go_simp
                       try with_reducible rfl
                     simp only [Act.put, List.setIfInBounds_toArray, List.set_cons_zero, List.set_cons_succ])
                  | (refine mv_take _ (Or.inr ⟨by rfl, rfl⟩) (rfl) ?_
                     simp only [Act.put, List.setIfInBounds_toArray, List.set_cons_zero, List.set_cons_succ])
              refine mv_step (fun K hK => ?_)
              go_simp
              refine (tnum_any b _ k4).mono ?_
              rintro e w' ⟨rfl, rfl⟩
              go_wp2_with fail
              refine hK.out _ _ _ (fun u hu => hu) (rfl) ?_
              clear hK K
              iterate 6
                first
                  | (refine mv_take ?_ (Or.inl ⟨by rfl, ?_⟩) (rfl) ?_
                     rotate_left 1
                     · intro u hu
                       (try dsimp only at hu)
                       go_simp
                       try with_reducible rfl
                     simp only [Act.put, List.setIfInBounds_toArray, List.set_cons_zero, List.set_cons_succ])
                  | (refine mv_take _ (Or.inr ⟨by rfl, rfl⟩) (rfl) ?_
                     simp only [Act.put, List.setIfInBounds_toArray, List.set_cons_zero, List.set_cons_succ])
              refine mv_step (fun K hK => ?_)
              go_simp
              refine (tlat_any b _ k4).mono ?_
              rintro e w' ⟨rfl, rfl⟩
              go_wp2_with fail
              refine hK.out _ _ _ (fun u hu => hu) (rfl) ?_
              clear hK K
              iterate 2
                first
                  | (refine mv_take ?_ (Or.inl ⟨by rfl, ?_⟩) (rfl) ?_
                     rotate_left 1
                     · intro u hu
                       (try dsimp only at hu)
                       go_simp
                       try with_reducible rfl
                     simp only [Act.put, List.setIfInBounds_toArray, List.set_cons_zero, List.set_cons_succ])
                  | (refine mv_take _ (Or.inr ⟨by rfl, rfl⟩) (rfl) ?_
                     simp only [Act.put, List.setIfInBounds_toArray, List.set_cons_zero, List.set_cons_succ])
              refine mv_done ?_
              go_wp2
              go_roundw
              case rel => exact ⟨k + 1, n', ld', by omega, by go_num, nb.1, nb.2, k4, km4, hq4, hb4⟩
              case measure => simp [intOf]; omega
            · go_wp2_with fail
              have hv : HB bm (tlC u d s m 0 false) w2 ((((((w2.setCell ⟨bm, 0, none⟩ (.int .i64 u)).setCell ⟨bm, 1, none⟩ (.int .i64 d)).setCell ⟨bm, 2, none⟩ (.int .i64 s)).setCell ⟨bm, 3, none⟩ (.int .i64 m)).setCell ⟨bm, 4, none⟩ (.int .i64 0)).setCell ⟨bm, 5, none⟩ (.bool false)) := ((((((HB.start km2).set 0 (.int .i64 u) (by simp [tlC])).set 1 (.int .i64 d) (by simp [tlC])).set 2 (.int .i64 s) (by simp [tlC])).set 3 (.int .i64 m) (by simp [tlC])).set 4 (.int .i64 0) (by simp [tlC])).set 5 (.bool false) (by simp [tlC])
              generalize ((((((w2.setCell ⟨bm, 0, none⟩ (.int .i64 u)).setCell ⟨bm, 1, none⟩ (.int .i64 d)).setCell ⟨bm, 2, none⟩ (.int .i64 s)).setCell ⟨bm, 3, none⟩ (.int .i64 m)).setCell ⟨bm, 4, none⟩ (.int .i64 0)).setCell ⟨bm, 5, none⟩ (.bool false)) = v at *
              have km5 := hv.held
              have k5 := Held.beside k2 hv.beside hbm
              have hq5 := Held.beside hq2 hv.beside (by omega)
              have hb5 : Below w.heap.size w v := Below.beside hb2 hv.beside (by omega)
              clear hv km2 k2 hq2 hb2 hc2 q0 q1 q2 q3 f0 f1 f2 f3 p0 p1 p2 p3 p4 p5 g0 g1 g2 g3 g4 g5
              refine region_moves (fun _ => True) [] [(.take, 0), (.take, 1), (.take, 3), (.step, 2), (.step, 4), (.take, 5), (.take, 6), (.take, 7), (.take, 9), (.take, 10), (.step, 8), (.take, 11), (.take, 12), (.take, 13), (.take, 14), (.take, 16), (.take, 17), (.step, 15), (.take, 18), (.take, 19)] _ (by kernel_rfl) (by kernel_rfl) (by kernel_rfl) (by kernel_rfl) (by decide) rfl (fun _ _ _ _ _ h => h) ?_
              simp only [List.filterMap_cons, List.filterMap_nil, List.getElem?_toArray, List.getElem?_cons_zero, List.getElem?_cons_succ, Option.map_some]
              iterate 3
                first
                  | (refine mv_take ?_ (Or.inl ⟨by rfl, ?_⟩) (trivial) ?_
                     rotate_left 1
                     · intro u hu
                       (try dsimp only at hu)
                       go_simp
                       try with_reducible rfl
                     simp only [Act.put, List.setIfInBounds_toArray, List.set_cons_zero, List.set_cons_succ])
                  | (refine mv_take _ (Or.inr ⟨by rfl, rfl⟩) (trivial) ?_
                     simp only [Act.put, List.setIfInBounds_toArray, List.set_cons_zero, List.set_cons_succ])
              refine mv_step (fun K hK => ?_)
              go_simp
              refine (tstep_any b true _ (Held.drew k5) ok z0 zm).mono ?_
              rintro e w3 ⟨rfl, k3, o3⟩
              go_wp2_with fail
              have km3 := (Held.drew km5).only o3 (by omega)
              have hq3 := (Held.drew hq5).only o3 (by omega)
              have hb3 : Below w.heap.size w w3 := (Below.drew hb5).trans (o3.below (by omega))
              refine hK.out _ _ _ (fun u hu => hu) (trivial) ?_
              clear hK K
              refine mv_step (fun K hK => ?_)
              go_simp
              refine (rtstep_any bm true _ km3 ok z0 zm).mono ?_
              rintro e w4 ⟨rfl, km4, o4⟩
              go_wp2_with fail
              have k4 := k3.only o4 (by omega)
              have hq4 := hq3.only o4 (by omega)
              have hb4 : Below w.heap.size w w4 := hb3.trans (o4.below (by omega))
              have nb := tnx_bd ok z0 zm true
              clear k3 km3 hq3 hb3 o3 o4
              generalize tnx u d m 0 true = n' at *
              simp only [Bool.false_or] at *
              generalize decide (s ≤ n') = ld' at *
              obtain ⟨c0, f0⟩ := km4.one 0 rfl
              obtain ⟨c1, f1⟩ := km4.one 1 rfl
              obtain ⟨c2, f2⟩ := km4.one 2 rfl
              obtain ⟨c3, f3⟩ := km4.one 3 rfl
              obtain ⟨c4, f4⟩ := km4.one 4 rfl
              obtain ⟨c5, f5⟩ := km4.one 5 rfl
              refine hK.out (fun u => u = w4) _ _ (fun _ _ => trivial) (rfl) ?_
              clear hK K
              iterate 5
                first
                  | (refine mv_take ?_ (Or.inl ⟨by rfl, ?_⟩) (rfl) ?_
                     rotate_left 1
                     · intro u hu
                       (try dsimp only at hu)
                       go_simp
                       try with_reducible rfl
                     simp only [Act.put, List.setIfInBounds_toArray, List.set_cons_zero, List.set_cons_succ])
                  | (refine mv_take _ (Or.inr ⟨by rfl, rfl⟩) (rfl) ?_
                     simp only [Act.put, List.setIfInBounds_toArray, List.set_cons_zero, List.set_cons_succ])
              refine mv_step (fun K hK => ?_)
              go_simp
              refine (tnum_any b _ k4).mono ?_
              rintro e w' ⟨rfl, rfl⟩
              go_wp2_with fail
              refine hK.out _ _ _ (fun u hu => hu) (rfl) ?_
              clear hK K
              iterate 6
                first
                  | (refine mv_take ?_ (Or.inl ⟨by rfl, ?_⟩) (rfl) ?_
                     rotate_left 1
                     · intro u hu
                       (try dsimp only at hu)
                       go_simp
                       try with_reducible rfl
                     simp only [Act.put, List.setIfInBounds_toArray, List.set_cons_zero, List.set_cons_succ])
                  | (refine mv_take _ (Or.inr ⟨by rfl, rfl⟩) (rfl) ?_
                     simp only [Act.put, List.setIfInBounds_toArray, List.set_cons_zero, List.set_cons_succ])
              refine mv_step (fun K hK => ?_)
              go_simp
              refine (tlat_any b _ k4).mono ?_
              rintro e w' ⟨rfl, rfl⟩
              go_wp2_with fail
              refine hK.out _ _ _ (fun u hu => hu) (rfl) ?_
              clear hK K
              iterate 2
                first
                  | (refine mv_take ?_ (Or.inl ⟨by rfl, ?_⟩) (rfl) ?_
                     rotate_left 1
                     · intro u hu
                       (try dsimp only at hu)
                       go_simp
                       try with_reducible rfl
                     simp only [Act.put, List.setIfInBounds_toArray, List.set_cons_zero, List.set_cons_succ])
                  | (refine mv_take _ (Or.inr ⟨by rfl, rfl⟩) (rfl) ?_
                     simp only [Act.put, List.setIfInBounds_toArray, List.set_cons_zero, List.set_cons_succ])
              refine mv_done ?_
              go_wp2
              go_roundw
              case rel => exact ⟨k + 1, n', ld', by omega, by go_num, nb.1, nb.2, k4, km4, hq4, hb4⟩
              case measure => simp [intOf]; omega
        · go_wp2_with fail
          refine (tclear_any b _ kk).mono ?_
          rintro e w2 ⟨rfl, k2, o2⟩
          have hb2 : Below w.heap.size w w2 := hbel.trans (o2.below (by omega))
          go_wp2_with (first | (go_at_call 33; refine (tnum_any b _ k2).mono ?_; rintro e w1 ⟨rfl, rfl⟩) | (go_at_call 34; refine (tlat_any b _ k2).mono ?_; rintro e w1 ⟨rfl, rfl⟩) | (go_at_call 29; refine (lives22 _).mono ?_; rintro e w1 ⟨rfl, hb3⟩))
          go_ret
          exact ⟨rfl, hb2.trans (hb3.mono hb2.size)⟩
end Go.Proofs.Ytifbedliibhmoaa
