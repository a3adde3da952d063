/- The law PhaseSteps, walked. -/
import Derived.Test.YtlhejkaedgelnaaPhase5
import Derived.Test.YtlhejkaedgelnaaPhase7
namespace Go.Proofs.Ytlhejkaedgelnaa
open Go.ChangeShapes Go.WideShapes Go.ChangeAt Go.RowKit
set_option linter.unusedVariables false
set_option linter.unusedSimpArgs false
set_option maxRecDepth 100000 in
set_option maxHeartbeats 8000000 in
theorem law_PhaseSteps (pt : Int) (t : Option Addr) (cap : Nat) (rows : List (List Value)) (w : World) (ht : Tab [some .i64, some .i64, some .i64] w t rows) (hl : rows.length ≤ maxLen) : Calls Try.prog 12 #[.int .i64 pt, .slice t rows.length cap] w fun e w' => e = .returned (.bool true) ∧ Below w.heap.size w w' := by
  unfold maxLen at hl
  by_cases hp : pt < 1 ∨ 1000 < pt
  · have NW := Lib.hid (fun u => pnew_no pt hp u)
    have h2 : pt < 1 ∨ (1 ≤ pt ∧ 1000 < pt) := by omega
    clear hp
    rcases h2 with h2 | ⟨h2, h3⟩
    all_goals
      go_enter Try.func12, Try.ntmps12
      go_wp2_with (first | (go_at_call 51; refine (NW.out _).mono ?_; rintro e w1 ⟨rfl, rfl⟩) | (go_at_call 50; refine (lives50 _).mono ?_; rintro e w1 ⟨rfl, hb3⟩))
      go_ret
      exact ⟨rfl, hb3⟩
  · have h2 : 1 ≤ pt := by omega
    have h3 : pt ≤ 1000 := by omega
    have NW := Lib.hid (fun u => pnew_ok pt h2 h3 u)
    have ok0 := Lib.hid (phO_ok h2 h3)
    clear hp
    by_cases hbig : 300 < rows.length
    · go_enter Try.func12, Try.ntmps12
      go_wp2_with fail
      refine (NW.out _).mono ?_
      rintro e w1 ⟨b, hb, rfl, k1, hb1⟩
      go_wp2_with (go_at_call 50; refine (lives50 _).mono ?_; rintro e w1 ⟨rfl, hb2⟩)
      go_ret
      exact ⟨rfl, hb1.trans (hb2.mono hb1.size)⟩
    · go_enter Try.func12, Try.ntmps12
      go_wp2_with fail
      refine (NW.out _).mono ?_
      rintro e w1 ⟨b, hb, rfl, k1, hb1⟩
      have K1 := Lib.hid k1
      have HB := Lib.hid hb
      have B1 := Lib.hid hb1
      clear k1 hb hb1
      go_wp2_with fail
      obtain ⟨bm, ebm⟩ : ∃ bm, w1.heap.size = bm := ⟨_, rfl⟩
      have hbm : b ≠ bm := by have := K1.out.lt; omega
      have hwm : w.heap.size ≤ bm := by have := B1.out.size; omega
      have KM := Lib.hid (show Held bm (phW pt phO 0) _ from ebm ▸ Held.new w1 (phW pt phO 0) 106)
      rw [ebm]
      replace ebm := Lib.hid ebm
      go_loopw [8] (fun i v => ∃ (k : Nat) (S : PhS) (N : Int), k ≤ rows.length ∧ i = .int .i64 k ∧ Hid (PhOk pt k S) ∧ Hid ((S.a ≠ S.p → N = S.n) ∧ 0 ≤ N ∧ N ≤ k) ∧ Hid (Held b (phC pt S) v) ∧ Hid (Held bm (phW pt S N) v) ∧ Hid (Below w.heap.size w v)) (fun i _ => rows.length - (intOf i).toNat)
      case atStart => exact ⟨0, phO, 0, Nat.zero_le _, rfl, ok0, Lib.hid ⟨fun _ => rfl, by omega, by omega⟩, Lib.hid (K1.out.alloc _), KM, Lib.hid (B1.out.alloc B1.out.size _)⟩
      case round =>
        obtain ⟨k, S, N, hk, rfl, ok, hN, kk, km, hbel⟩ := hrel
        clear K1 B1 KM
        by_cases hlt : k < rows.length
        · obtain ⟨tb, off, c, h, r, rfl, htb, hcells⟩ := look_at ht hlt
          have hcells := Lib.hid hcells
          clear ht
          obtain ⟨m0, m1, m2⟩ := hcells.out wr hbel.out
          have hok := Lib.hid (phStep_ok ok.out c h r)
          have hN2 := Lib.hid (show ((phStep pt S c h r).a ≠ (phStep pt S c h r).p → phRz pt S N (phA S.p c h r) = (phStep pt S c h r).n) ∧ _ from ⟨phR_z hN.out.1, phRz_bd (pt := pt) (S := S) (k := phA S.p c h r) hN.out.2.1 hN.out.2.2⟩)
          have ST := Lib.hid (fun v (kv : Held b (phC pt S) v) => pstep b c h r v kv ok.out (by omega))
          have RT := Lib.hid (fun v (kv : Held bm (phW pt S N) v) => rpstep bm c h r v kv ok.out (by omega) hN.out.1 hN.out.2.1 hN.out.2.2)
          generalize phStep pt S c h r = Z at *
          generalize phRz pt S N (phA S.p c h r) = M at *
          have EQ := fun u => teq6 (Z.T 0) (Z.T 1) (Z.T 2) (Z.T 3) (Z.T 4) (Z.T 5) u
          go_wp2_with fail
          refine region_moves (fun u => u.cell? ⟨tb, off + k * 3, none⟩ = some (.int .i64 c) ∧ u.cell? ⟨tb, off + k * 3 + 1, none⟩ = some (.int .i64 h) ∧ u.cell? ⟨tb, off + k * 3 + 2, none⟩ = some (.int .i64 r)) [] [(.free, 0), (.free, 1), (.free, 2), (.free, 3), (.take, 4), (.free, 6), (.free, 7), (.free, 8), (.free, 9), (.take, 10), (.free, 11), (.free, 12), (.free, 13), (.free, 14), (.take, 15), (.free, 16), (.free, 17), (.free, 18), (.free, 19), (.take, 20), (.step, 5), (.step, 21), (.free, 22), (.free, 23), (.free, 24), (.free, 26), (.take, 27), (.step, 25), (.free, 28), (.free, 29), (.free, 30), (.free, 31), (.free, 33), (.take, 34), (.step, 32), (.free, 35), (.free, 36), (.free, 37), (.free, 38), (.free, 40), (.take, 41), (.step, 39), (.free, 42), (.free, 43)] _ (by kernel_rfl) (by kernel_rfl) (by kernel_rfl) (by kernel_rfl) (by decide) rfl (fun _ _ _ _ _ h => h) ?_
          simp only [List.filterMap_cons, List.filterMap_nil, List.getElem?_toArray, List.getElem?_cons_zero, List.getElem?_cons_succ, Option.map_some]
          iterate 4
            first
              | (refine mv_free ?_ (Or.inl ⟨by rfl, ?_⟩) (⟨m0, m1, m2⟩) ?_
                 rotate_left 1
                 · intro u
                   go_simp
                   try with_reducible rfl
                 simp only [Act.put, List.setIfInBounds_toArray, List.set_cons_zero, List.set_cons_succ])
              | (refine mv_free _ (Or.inr ⟨by rfl, rfl⟩) (⟨m0, m1, m2⟩) ?_
                 simp only [Act.put, List.setIfInBounds_toArray, List.set_cons_zero, List.set_cons_succ])
          iterate 1
            first
              | (refine mv_take ?_ (Or.inl ⟨by rfl, ?_⟩) (⟨m0, m1, m2⟩) ?_
                 rotate_left 1
                 · intro u hu
                   (try dsimp only at hu)
                   go_simp
                   try with_reducible rfl
                 simp only [Act.put, List.setIfInBounds_toArray, List.set_cons_zero, List.set_cons_succ])
              | (refine mv_take _ (Or.inr ⟨by rfl, rfl⟩) (⟨m0, m1, m2⟩) ?_
                 simp only [Act.put, List.setIfInBounds_toArray, List.set_cons_zero, List.set_cons_succ])
          iterate 4
            first
              | (refine mv_free ?_ (Or.inl ⟨by rfl, ?_⟩) (⟨m0, m1, m2⟩) ?_
                 rotate_left 1
                 · intro u
                   go_simp
                   try with_reducible rfl
                 simp only [Act.put, List.setIfInBounds_toArray, List.set_cons_zero, List.set_cons_succ])
              | (refine mv_free _ (Or.inr ⟨by rfl, rfl⟩) (⟨m0, m1, m2⟩) ?_
                 simp only [Act.put, List.setIfInBounds_toArray, List.set_cons_zero, List.set_cons_succ])
          iterate 1
            first
              | (refine mv_take ?_ (Or.inl ⟨by rfl, ?_⟩) (⟨m0, m1, m2⟩) ?_
                 rotate_left 1
                 · intro u hu
                   (try dsimp only at hu)
                   go_simp
                   try with_reducible rfl
                 simp only [Act.put, List.setIfInBounds_toArray, List.set_cons_zero, List.set_cons_succ])
              | (refine mv_take _ (Or.inr ⟨by rfl, rfl⟩) (⟨m0, m1, m2⟩) ?_
                 simp only [Act.put, List.setIfInBounds_toArray, List.set_cons_zero, List.set_cons_succ])
          iterate 4
            first
              | (refine mv_free ?_ (Or.inl ⟨by rfl, ?_⟩) (⟨m0, m1, m2⟩) ?_
                 rotate_left 1
                 · intro u
                   go_simp
                   try with_reducible rfl
                 simp only [Act.put, List.setIfInBounds_toArray, List.set_cons_zero, List.set_cons_succ])
              | (refine mv_free _ (Or.inr ⟨by rfl, rfl⟩) (⟨m0, m1, m2⟩) ?_
                 simp only [Act.put, List.setIfInBounds_toArray, List.set_cons_zero, List.set_cons_succ])
          iterate 1
            first
              | (refine mv_take ?_ (Or.inl ⟨by rfl, ?_⟩) (⟨m0, m1, m2⟩) ?_
                 rotate_left 1
                 · intro u hu
                   (try dsimp only at hu)
                   go_simp
                   try with_reducible rfl
                 simp only [Act.put, List.setIfInBounds_toArray, List.set_cons_zero, List.set_cons_succ])
              | (refine mv_take _ (Or.inr ⟨by rfl, rfl⟩) (⟨m0, m1, m2⟩) ?_
                 simp only [Act.put, List.setIfInBounds_toArray, List.set_cons_zero, List.set_cons_succ])
          iterate 4
            first
              | (refine mv_free ?_ (Or.inl ⟨by rfl, ?_⟩) (⟨m0, m1, m2⟩) ?_
                 rotate_left 1
                 · intro u
                   go_simp
                   try with_reducible rfl
                 simp only [Act.put, List.setIfInBounds_toArray, List.set_cons_zero, List.set_cons_succ])
              | (refine mv_free _ (Or.inr ⟨by rfl, rfl⟩) (⟨m0, m1, m2⟩) ?_
                 simp only [Act.put, List.setIfInBounds_toArray, List.set_cons_zero, List.set_cons_succ])
          iterate 1
            first
              | (refine mv_take ?_ (Or.inl ⟨by rfl, ?_⟩) (⟨m0, m1, m2⟩) ?_
                 rotate_left 1
                 · intro u hu
                   (try dsimp only at hu)
                   go_simp
                   try with_reducible rfl
                 simp only [Act.put, List.setIfInBounds_toArray, List.set_cons_zero, List.set_cons_succ])
              | (refine mv_take _ (Or.inr ⟨by rfl, rfl⟩) (⟨m0, m1, m2⟩) ?_
                 simp only [Act.put, List.setIfInBounds_toArray, List.set_cons_zero, List.set_cons_succ])
          refine mv_step (fun K hK => ?_)
          go_simp
          refine (ST.out _ (Held.drew kk.out)).mono ?_
          rintro e w3 ⟨rfl, k3, b3⟩
          have K3 := Lib.hid k3
          have M3 := Lib.hid ((Held.drew km.out).beside b3 (by omega))
          have B3 := Lib.hid (Below.beside (Below.drew hbel.out) b3 HB.out)
          clear k3 b3 kk km hbel m0 m1 m2
          obtain ⟨r0, r1, r2⟩ := hcells.out _ B3.out
          go_wp2_with fail
          refine hK.out _ _ _ (fun u hu => hu) (⟨r0, r1, r2⟩) ?_
          clear hK K
          refine mv_step (fun K hK => ?_)
          go_simp
          refine (RT.out _ M3.out).mono ?_
          rintro e w4 ⟨rfl, k4, o4⟩
          have M4 := Lib.hid k4
          have K4 := Lib.hid (K3.out.only o4 hbm)
          have B4 := Lib.hid (B3.out.trans (o4.below hwm))
          clear k4 o4 K3 M3 B3 r0 r1 r2
          obtain ⟨r0, r1, r2⟩ := hcells.out _ B4.out
          have x1 := M4.out.c 1 _ rfl
          have x4 := M4.out.c 4 _ rfl
          have x5 := M4.out.c 5 _ rfl
          have x6 := M4.out.c 6 _ rfl
          have x7 := M4.out.c 7 _ rfl
          have x8 := M4.out.c 8 _ rfl
          have x9 := M4.out.c 9 _ rfl
          have x10 := M4.out.c 10 _ rfl
          go_wp2_with fail
          refine hK.out (fun u => u.cell? ⟨tb, off + k * 3, none⟩ = some (.int .i64 c) ∧ u.cell? ⟨tb, off + k * 3 + 1, none⟩ = some (.int .i64 h) ∧ u.cell? ⟨tb, off + k * 3 + 2, none⟩ = some (.int .i64 r) ∧ u.cell? ⟨bm, 1, none⟩ = some (.int .i64 Z.p) ∧ u.cell? ⟨bm, 4, none⟩ = some (.int .i64 Z.lg) ∧ u.cell? ⟨bm, 5, none⟩ = some (.int .i64 (Z.T 0)) ∧ u.cell? ⟨bm, 6, none⟩ = some (.int .i64 (Z.T 1)) ∧ u.cell? ⟨bm, 7, none⟩ = some (.int .i64 (Z.T 2)) ∧ u.cell? ⟨bm, 8, none⟩ = some (.int .i64 (Z.T 3)) ∧ u.cell? ⟨bm, 9, none⟩ = some (.int .i64 (Z.T 4)) ∧ u.cell? ⟨bm, 10, none⟩ = some (.int .i64 (Z.T 5))) _ _ (fun u hu => ⟨hu.1, hu.2.1, hu.2.2.1⟩) (⟨r0, r1, r2, x1, x4, x5, x6, x7, x8, x9, x10⟩) ?_
          clear hK K
          iterate 4
            first
              | (refine mv_free ?_ (Or.inl ⟨by rfl, ?_⟩) (⟨r0, r1, r2, x1, x4, x5, x6, x7, x8, x9, x10⟩) ?_
                 rotate_left 1
                 · intro u
                   go_simp
                   try with_reducible rfl
                 simp only [Act.put, List.setIfInBounds_toArray, List.set_cons_zero, List.set_cons_succ])
              | (refine mv_free _ (Or.inr ⟨by rfl, rfl⟩) (⟨r0, r1, r2, x1, x4, x5, x6, x7, x8, x9, x10⟩) ?_
                 simp only [Act.put, List.setIfInBounds_toArray, List.set_cons_zero, List.set_cons_succ])
          iterate 1
            first
              | (refine mv_take ?_ (Or.inl ⟨by rfl, ?_⟩) (⟨r0, r1, r2, x1, x4, x5, x6, x7, x8, x9, x10⟩) ?_
                 rotate_left 1
                 · intro u hu
                   (try dsimp only at hu)
                   go_simp
                   try with_reducible rfl
                 simp only [Act.put, List.setIfInBounds_toArray, List.set_cons_zero, List.set_cons_succ])
              | (refine mv_take _ (Or.inr ⟨by rfl, rfl⟩) (⟨r0, r1, r2, x1, x4, x5, x6, x7, x8, x9, x10⟩) ?_
                 simp only [Act.put, List.setIfInBounds_toArray, List.set_cons_zero, List.set_cons_succ])
          refine mv_step (fun K hK => ?_)
          go_simp
          refine (pphase b _ K4.out).mono ?_
          rintro e w' ⟨rfl, rfl⟩
          go_wp2_with fail
          refine hK.out _ _ _ (fun u hu => hu) (⟨r0, r1, r2, x1, x4, x5, x6, x7, x8, x9, x10⟩) ?_
          clear hK K
          iterate 5
            first
              | (refine mv_free ?_ (Or.inl ⟨by rfl, ?_⟩) (⟨r0, r1, r2, x1, x4, x5, x6, x7, x8, x9, x10⟩) ?_
                 rotate_left 1
                 · intro u
                   go_simp
                   try with_reducible rfl
                 simp only [Act.put, List.setIfInBounds_toArray, List.set_cons_zero, List.set_cons_succ])
              | (refine mv_free _ (Or.inr ⟨by rfl, rfl⟩) (⟨r0, r1, r2, x1, x4, x5, x6, x7, x8, x9, x10⟩) ?_
                 simp only [Act.put, List.setIfInBounds_toArray, List.set_cons_zero, List.set_cons_succ])
          iterate 1
            first
              | (refine mv_take ?_ (Or.inl ⟨by rfl, ?_⟩) (⟨r0, r1, r2, x1, x4, x5, x6, x7, x8, x9, x10⟩) ?_
                 rotate_left 1
                 · intro u hu
                   (try dsimp only at hu)
                   go_simp
                   try with_reducible rfl
                 simp only [Act.put, List.setIfInBounds_toArray, List.set_cons_zero, List.set_cons_succ])
              | (refine mv_take _ (Or.inr ⟨by rfl, rfl⟩) (⟨r0, r1, r2, x1, x4, x5, x6, x7, x8, x9, x10⟩) ?_
                 simp only [Act.put, List.setIfInBounds_toArray, List.set_cons_zero, List.set_cons_succ])
          refine mv_step (fun K hK => ?_)
          go_simp
          refine (ptimes b _ K4.out).mono ?_
          rintro e w5 ⟨rfl, hb5⟩
          have M5 := Lib.hid (M4.out.bel hb5)
          have K5 := Lib.hid (K4.out.bel hb5)
          have B5 := Lib.hid (B4.out.trans (hb5.mono B4.out.size))
          clear hb5 K4 M4 B4 r0 r1 r2 x1 x4 x5 x6 x7 x8 x9 x10
          obtain ⟨r0, r1, r2⟩ := hcells.out _ B5.out
          have x1 := M5.out.c 1 _ rfl
          have x4 := M5.out.c 4 _ rfl
          have x5 := M5.out.c 5 _ rfl
          have x6 := M5.out.c 6 _ rfl
          have x7 := M5.out.c 7 _ rfl
          have x8 := M5.out.c 8 _ rfl
          have x9 := M5.out.c 9 _ rfl
          have x10 := M5.out.c 10 _ rfl
          go_wp2_with fail
          refine hK.out _ _ _ (fun u hu => hu) (⟨r0, r1, r2, x1, x4, x5, x6, x7, x8, x9, x10⟩) ?_
          clear hK K
          iterate 5
            first
              | (refine mv_free ?_ (Or.inl ⟨by rfl, ?_⟩) (⟨r0, r1, r2, x1, x4, x5, x6, x7, x8, x9, x10⟩) ?_
                 rotate_left 1
                 · intro u
                   go_simp
                   try with_reducible rfl
                 simp only [Act.put, List.setIfInBounds_toArray, List.set_cons_zero, List.set_cons_succ])
              | (refine mv_free _ (Or.inr ⟨by rfl, rfl⟩) (⟨r0, r1, r2, x1, x4, x5, x6, x7, x8, x9, x10⟩) ?_
                 simp only [Act.put, List.setIfInBounds_toArray, List.set_cons_zero, List.set_cons_succ])
          iterate 1
            first
              | (refine mv_take ?_ (Or.inl ⟨by rfl, ?_⟩) (⟨r0, r1, r2, x1, x4, x5, x6, x7, x8, x9, x10⟩) ?_
                 rotate_left 1
                 · intro u hu
                   (try dsimp only at hu)
                   go_simp
                   try with_reducible rfl
                 simp only [Act.put, List.setIfInBounds_toArray, List.set_cons_zero, List.set_cons_succ])
              | (refine mv_take _ (Or.inr ⟨by rfl, rfl⟩) (⟨r0, r1, r2, x1, x4, x5, x6, x7, x8, x9, x10⟩) ?_
                 simp only [Act.put, List.setIfInBounds_toArray, List.set_cons_zero, List.set_cons_succ])
          refine mv_step (fun K hK => ?_)
          go_simp
          refine (plegs b _ K5.out).mono ?_
          rintro e w' ⟨rfl, rfl⟩
          go_wp2_with fail
          refine hK.out _ _ _ (fun u hu => hu) (⟨r0, r1, r2, x1, x4, x5, x6, x7, x8, x9, x10⟩) ?_
          clear hK K
          iterate 2
            first
              | (refine mv_free ?_ (Or.inl ⟨by rfl, ?_⟩) (⟨r0, r1, r2, x1, x4, x5, x6, x7, x8, x9, x10⟩) ?_
                 rotate_left 1
                 · intro u
                   go_simp
                   try with_reducible rfl
                 simp only [Act.put, List.setIfInBounds_toArray, List.set_cons_zero, List.set_cons_succ])
              | (refine mv_free _ (Or.inr ⟨by rfl, rfl⟩) (⟨r0, r1, r2, x1, x4, x5, x6, x7, x8, x9, x10⟩) ?_
                 simp only [Act.put, List.setIfInBounds_toArray, List.set_cons_zero, List.set_cons_succ])
          refine mv_done ?_
          clear r0 r1 r2 x1 x4 x5 x6 x7 x8 x9 x10
          go_wp2_with fail
          refine (phighest b _ K5.out).mono ?_
          rintro e w6 ⟨rfl, hb6⟩
          have M6 := Lib.hid (M5.out.bel hb6)
          have K6 := Lib.hid (K5.out.bel hb6)
          have B6 := Lib.hid (B5.out.trans (hb6.mono B5.out.size))
          clear hb6 K5 M5 B5
          have y0 := M6.out.c 11 _ rfl
          have y1 := M6.out.c 12 _ rfl
          go_wp2
          go_roundw
          case rel => exact ⟨k + 1, Z, M, by omega, by go_num, hok, Lib.hid ⟨hN2.out.1, hN2.out.2.1, by have := hN2.out.2.2; omega⟩, K6, M6, B6⟩
          case measure => simp [intOf]; omega
        · go_wp2_with fail
          refine (preset b _ kk.out).mono ?_
          rintro e w2 ⟨rfl, k2, b2⟩
          have K2 := Lib.hid k2
          have B2 := Lib.hid (Below.beside hbel.out b2 HB.out)
          clear k2 b2 kk km hbel
          have TM := Lib.hid (show Calls Try.prog 56 #[.pointer (some ⟨b, 0, none⟩)] w2 fun e w' => e = .returned (.agg #[.int .i64 0, .int .i64 0, .int .i64 0, .int .i64 0, .int .i64 0, .int .i64 0]) ∧ Below w2.heap.size w2 w' from ptimes b _ K2.out)
          have EQ := fun u => teq6 0 0 0 0 0 0 u
          go_wp2_with fail
          refine (show Calls Try.prog 55 #[.pointer (some ⟨b, 0, none⟩)] w2 fun e w' => e = .returned (.int .i64 0) ∧ w2 = w' from pphase b _ K2.out).mono ?_
          rintro e w' ⟨rfl, rfl⟩
          go_wp2_with fail
          refine TM.out.mono ?_
          rintro e w3 ⟨rfl, hb3⟩
          have B3 := Lib.hid (B2.out.trans (hb3.mono B2.out.size))
          clear hb3
          go_wp2_with (go_at_call 50; refine (lives50 _).mono ?_; rintro e w1 ⟨rfl, hb4⟩)
          go_ret
          exact ⟨rfl, B3.out.trans (hb4.mono B3.out.size)⟩
end Go.Proofs.Ytlhejkaedgelnaa
