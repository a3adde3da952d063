/- The law SignsSteps, walked. -/
import Derived.Test.YtffhhdjcodapjaaSigns7
import Derived.Deep.CutRange
namespace Go.Proofs.Ytffhhdjcodapjaa
open Go.ChangeShapes Go.WideShapes Go.ChangeAt Go.RowKit
set_option linter.unusedVariables false
set_option linter.unusedSimpArgs false
theorem two_at8 {w : World} {t : Option Addr} {rows : List (List Value)} (h : Tab [some .i64, some .i64] w t rows) {i : Nat} (hi : i < rows.length) :
    ∃ tb off x y, t = some ⟨tb, off, none⟩ ∧ tb < w.heap.size ∧ ∀ v, Below w.heap.size w v → v.cell? ⟨tb, off + i * 2, none⟩ = some (.int .i64 x) ∧ v.cell? ⟨tb, off + i * 2 + 1, none⟩ = some (.int .i64 y) := by
  obtain ⟨tb, off, r, rfl, htb, hr, hfl, hcell⟩ := h.at hi
  obtain ⟨x, _, rfl, wx, hfl⟩ := hfl
  obtain ⟨y, _, rfl, wy, hfl⟩ := hfl
  exact ⟨tb, off, x, y, rfl, htb, fun v hv => ⟨(bc hv htb).trans (hcell 0 _ rfl), (bc hv htb).trans (hcell 1 _ rfl)⟩⟩
/-- Both in step. -/
structure SgB (b q B : Nat) (ep mv tk fl hi : Int) (an : Bool) (v r st lo : Int) (k : Nat) (w u : World) : Prop where
  x : Held b (sgC ep mv tk fl hi an v r st lo) u
  m : Held q (rsC ep mv tk fl hi an v r st lo) u
  bel : Below B w u
  v1 : -549755813887 ≤ v
  v2 : v ≤ 549755813887
  r1 : -549755813887 ≤ r
  r2 : r ≤ 549755813887
  s0 : 0 ≤ st
  s1 : st ≤ k
  l0 : 0 ≤ lo
  l1 : lo ≤ k
set_option maxRecDepth 100000 in
set_option maxHeartbeats 8000000 in
theorem law_SignsSteps (ep mv tk fl hi : Int) (t : Option Addr) (cap : Nat) (rows : List (List Value)) (fg : Int) (w : World) (ht : Tab [some .i64, some .i64] w t rows) (hl : rows.length ≤ maxLen) :
    Calls Try.prog 3 #[.agg #[.int .i64 ep, .int .i64 mv, .int .i64 tk, .int .i64 fl, .int .i64 hi], .slice t rows.length cap, .int .i64 fg] w fun e w' => e = .returned (.bool true) ∧ Below w.heap.size w w' := by
  unfold maxLen at hl
  have hq0 := Held.new w [.int .i64 ep, .int .i64 mv, .int .i64 tk, .int .i64 fl, .int .i64 hi] 23
  have hb0 : Below w.heap.size w (w.alloc (.cells #[.int .i64 ep, .int .i64 mv, .int .i64 tk, .int .i64 fl, .int .i64 hi] 23)) := (Below.refl _ _).alloc (Nat.le_refl _) _
  cases hR : sgR ep mv tk fl hi
  · go_enter Try.func3, Try.ntmps3
    go_wp2_with fail
    refine (sgnew_no ep mv tk fl hi _ hR).mono ?_
    rintro e w1 ⟨rfl, hb1⟩
    have hb1 := hb0.trans (hb1.mono hb0.size)
    go_wp2_with (go_at_call 13; refine (lives23 _).mono ?_; rintro e w1 ⟨rfl, hb2⟩)
    go_ret
    exact ⟨rfl, hb1.trans (hb2.mono hb1.size)⟩
  · have ok := sgR_ok hR
    go_enter Try.func3, Try.ntmps3
    go_wp2_with fail
    refine (sgnew_ok ep mv tk fl hi _ hR).mono ?_
    rintro e w1 ⟨b, hb, rfl, k1, hb1⟩
    have hq1 := hq0.bel hb1
    have hbel1 := hb0.trans (hb1.mono hb0.size)
    have hbw : w.heap.size < b := by simp at hb; omega
    clear hq0 hb0 hb1 hb
    by_cases hbig : 200 < rows.length
    · go_wp2_with (go_at_call 13; refine (lives23 _).mono ?_; rintro e w1 ⟨rfl, hb2⟩)
      all_goals first | (exfalso; omega) | skip
      all_goals
        go_ret
        exact ⟨rfl, hbel1.trans (hb2.mono hbel1.size)⟩
    · have g1 : rows.length ≤ 200 := by omega
      clear hbig
      obtain ⟨q0, f0⟩ := hq1.one 0 rfl
      obtain ⟨q1, f1⟩ := hq1.one 1 rfl
      obtain ⟨q2, f2⟩ := hq1.one 2 rfl
      obtain ⟨q3, f3⟩ := hq1.one 3 rfl
      obtain ⟨q4, f4⟩ := hq1.one 4 rfl
      go_wp2_with fail
      obtain ⟨bm, ebm⟩ : ∃ bm, w1.heap.size = bm := ⟨_, rfl⟩
      have hbm : b ≠ bm := by have := k1.lt; omega
      have hwm : w.heap.size ≤ bm := by have := hbel1.size; omega
      have hm1 := Held.new w1 (rsC ep mv tk fl hi false 0 0 0 0) 32
      rw [ebm] at hm1
      have I0 := Lib.hid (show SgB b bm w.heap.size ep mv tk fl hi false 0 0 0 0 0 w _ from ⟨k1.alloc _, hm1, hbel1.alloc hbel1.size _, by omega, by omega, by omega, by omega, by omega, by omega, by omega, by omega⟩)
      clear hm1 k1 hq1 q0 q1 q2 q3 q4 f0 f1 f2 f3 f4
      replace hbel1 := Lib.hid hbel1
      rw [ebm]
      clear ebm
      go_loopw [10] (fun i u => ∃ (k : Nat) (an : Bool) (v r st lo : Int), k ≤ rows.length ∧ i = .int .i64 k ∧ Hid (SgB b bm w.heap.size ep mv tk fl hi an v r st lo k w u)) (fun i _ => rows.length - (intOf i).toNat)
      case atStart => exact ⟨0, false, 0, 0, 0, 0, Nat.zero_le _, rfl, I0⟩
      case round =>
        clear I0 hbel1
        obtain ⟨k, an, v, r, st, lo, hk, rfl, I1⟩ := hrel
        by_cases hlt : k < rows.length
        · obtain ⟨tb, off, x, y, rfl, htb, hcells⟩ := two_at8 ht hlt
          have hcells := Lib.hid hcells
          clear ht
          have j1 : IntKind.i64.wrap ((k : Int) + 1) = (k : Int) + 1 := by rw [IntKind.wrap_i64]; omega
          go_upto_if 36 with (fail)
          go_cut [] from 34 to 80 (fun u => ∃ (an : Bool) (v r st lo : Int), Hid (SgB b bm w.heap.size ep mv tk fl hi an v r st lo k w u))
          case first =>
            by_cases hf : (k : Int) = fg
            · have hx := I1.out.x
              have hm := I1.out.m
              subst hf
              go_wp2_with fail
              refine (sforget_any b _ hx).mono ?_
              rintro e w2 ⟨rfl, hx2, o2⟩
              have hm2 := hm.only o2 (Ne.symm hbm)
              have hb2 := I1.out.bel.trans (o2.below (by omega))
              obtain ⟨c0, g0⟩ := hm2.one 0 rfl
              obtain ⟨c1, g1⟩ := hm2.one 1 rfl
              obtain ⟨c2, g2⟩ := hm2.one 2 rfl
              obtain ⟨c3, g3⟩ := hm2.one 3 rfl
              obtain ⟨c4, g4⟩ := hm2.one 4 rfl
              obtain ⟨c5, g5⟩ := hm2.one 5 rfl
              obtain ⟨c6, g6⟩ := hm2.one 6 rfl
              obtain ⟨c7, g7⟩ := hm2.one 7 rfl
              obtain ⟨c8, g8⟩ := hm2.one 8 rfl
              obtain ⟨c9, g9⟩ := hm2.one 9 rfl
              go_wp2_with fail
              go_meet
              case rel =>
                have hm3 := ((((((((((hm2.set 0 (.int .i64 ep) (by simp [rsC])).set 1 (.int .i64 mv) (by simp [rsC])).set 2 (.int .i64 tk) (by simp [rsC])).set 3 (.int .i64 fl) (by simp [rsC])).set 4 (.int .i64 hi) (by simp [rsC])).set 5 (.int .i64 0) (by simp [rsC])).set 6 (.int .i64 0) (by simp [rsC])).set 7 (.bool false) (by simp [rsC])).set 8 (.int .i64 0) (by simp [rsC])).set 9 (.int .i64 0) (by simp [rsC]))
                have o3 := (((((((((((Only.refl bm w2).setCell (p := ⟨bm, 0, none⟩) (.int .i64 ep)).setCell (p := ⟨bm, 1, none⟩) (.int .i64 mv)).setCell (p := ⟨bm, 2, none⟩) (.int .i64 tk)).setCell (p := ⟨bm, 3, none⟩) (.int .i64 fl)).setCell (p := ⟨bm, 4, none⟩) (.int .i64 hi)).setCell (p := ⟨bm, 5, none⟩) (.int .i64 0)).setCell (p := ⟨bm, 6, none⟩) (.int .i64 0)).setCell (p := ⟨bm, 7, none⟩) (.bool false)).setCell (p := ⟨bm, 8, none⟩) (.int .i64 0)).setCell (p := ⟨bm, 9, none⟩) (.int .i64 0))
                have hx3 := hx2.only o3 hbm
                have hb3 := hb2.trans (o3.below hwm)
                exact ⟨false, 0, 0, 0, 0, Lib.hid ⟨hx3, hm3, hb3, by omega, by omega, by omega, by omega, by omega, by omega, by omega, by omega⟩⟩
            · go_wp2_with fail
              go_meet
              case rel => exact ⟨an, v, r, st, lo, I1⟩
          case rest =>
            clear I1
            obtain ⟨an, v, r, st, lo, I2⟩ := hcut
            obtain ⟨c0, c1⟩ := hcells.out wc I2.out.bel
            have ST := Lib.hid (fun u (hu : Held b (sgC ep mv tk fl hi an v r st lo) u) => sstep_any b x y u hu I2.out.v1 I2.out.v2 I2.out.r1 I2.out.r2 I2.out.s0 (by have := I2.out.s1; omega) I2.out.l0 (by have := I2.out.l1; omega))
            have RT := Lib.hid (fun u (hu : Held bm (rsC ep mv tk fl hi an v r st lo) u) => rsstep_any bm x y u hu ok I2.out.v1 I2.out.v2 I2.out.r1 I2.out.r2 I2.out.s0 (by have := I2.out.s1; omega) I2.out.l0 (by have := I2.out.l1; omega))
            have bx := clq_bd x
            have by0 := clq_bd y
            have vb := sgV_bd ep an v (clq x) bx.1 bx.2 I2.out.v1 I2.out.v2
            have rb := sgA_bd ep an v (clq x) r (clq y) by0.1 by0.2 I2.out.r1 I2.out.r2
            have sb := sgS_bd ep an v (clq x) st I2.out.s0
            have lb := sgL_bd fl hi (clq x) (clq y) lo I2.out.l0
            have s1 := I2.out.s1
            have l1 := I2.out.l1
            generalize sgOut mv tk (sgS ep an v (clq x) st) (clq y) (sgA ep an v (clq x) r (clq y)) (sgL fl hi (clq x) (clq y) lo) = q at *
            generalize sgV ep an v (clq x) = V at *
            generalize sgA ep an v (clq x) r (clq y) = A at *
            generalize sgS ep an v (clq x) st = S at *
            generalize sgL fl hi (clq x) (clq y) lo = L at *
            clear bx by0
            have hx := I2.out.x
            have hm := I2.out.m
            have hbel := I2.out.bel
            clear I2
            go_wp2_with fail
            refine region_moves (fun u => u.cell? ⟨tb, off + k * 2, none⟩ = some (.int .i64 x) ∧ u.cell? ⟨tb, off + k * 2 + 1, none⟩ = some (.int .i64 y)) [] [(.free, 0), (.free, 1), (.free, 2), (.free, 3), (.free, 4), (.take, 5), (.free, 6), (.free, 7), (.free, 8), (.free, 9), (.take, 10), (.free, 12), (.free, 13), (.free, 14), (.free, 15), (.take, 16), (.free, 17), (.free, 18), (.free, 19), (.free, 20), (.take, 21), (.step, 11), (.step, 22), (.free, 23)] _ (by kernel_rfl) (by kernel_rfl) (by kernel_rfl) (by kernel_rfl) (by decide) rfl (fun _ _ _ _ _ h => h) ?_
            simp only [List.filterMap_cons, List.filterMap_nil, List.getElem?_toArray, List.getElem?_cons_zero, List.getElem?_cons_succ, Option.map_some]
            iterate 5
              first
                | (refine mv_free ?_ (Or.inl ⟨by rfl, ?_⟩) (⟨c0, c1⟩) ?_
                   rotate_left 1
                   · intro u
                     go_simp
                     try with_reducible rfl
                   simp only [Act.put, List.setIfInBounds_toArray, List.set_cons_zero, List.set_cons_succ])
                | (refine mv_free _ (Or.inr ⟨by rfl, rfl⟩) (⟨c0, c1⟩) ?_
                   simp only [Act.put, List.setIfInBounds_toArray, List.set_cons_zero, List.set_cons_succ])
            iterate 1
              first
                | (refine mv_take ?_ (Or.inl ⟨by rfl, ?_⟩) (⟨c0, c1⟩) ?_
                   rotate_left 1
                   · intro u hu
                     (try dsimp only at hu)
                     go_simp
                     try with_reducible rfl
                   simp only [Act.put, List.setIfInBounds_toArray, List.set_cons_zero, List.set_cons_succ])
                | (refine mv_take _ (Or.inr ⟨by rfl, rfl⟩) (⟨c0, c1⟩) ?_
                   simp only [Act.put, List.setIfInBounds_toArray, List.set_cons_zero, List.set_cons_succ])
            iterate 4
              first
                | (refine mv_free ?_ (Or.inl ⟨by rfl, ?_⟩) (⟨c0, c1⟩) ?_
                   rotate_left 1
                   · intro u
                     go_simp
                     try with_reducible rfl
                   simp only [Act.put, List.setIfInBounds_toArray, List.set_cons_zero, List.set_cons_succ])
                | (refine mv_free _ (Or.inr ⟨by rfl, rfl⟩) (⟨c0, c1⟩) ?_
                   simp only [Act.put, List.setIfInBounds_toArray, List.set_cons_zero, List.set_cons_succ])
            iterate 1
              first
                | (refine mv_take ?_ (Or.inl ⟨by rfl, ?_⟩) (⟨c0, c1⟩) ?_
                   rotate_left 1
                   · intro u hu
                     (try dsimp only at hu)
                     go_simp
                     try with_reducible rfl
                   simp only [Act.put, List.setIfInBounds_toArray, List.set_cons_zero, List.set_cons_succ])
                | (refine mv_take _ (Or.inr ⟨by rfl, rfl⟩) (⟨c0, c1⟩) ?_
                   simp only [Act.put, List.setIfInBounds_toArray, List.set_cons_zero, List.set_cons_succ])
            iterate 4
              first
                | (refine mv_free ?_ (Or.inl ⟨by rfl, ?_⟩) (⟨c0, c1⟩) ?_
                   rotate_left 1
                   · intro u
                     go_simp
                     try with_reducible rfl
                   simp only [Act.put, List.setIfInBounds_toArray, List.set_cons_zero, List.set_cons_succ])
                | (refine mv_free _ (Or.inr ⟨by rfl, rfl⟩) (⟨c0, c1⟩) ?_
                   simp only [Act.put, List.setIfInBounds_toArray, List.set_cons_zero, List.set_cons_succ])
            iterate 1
              first
                | (refine mv_take ?_ (Or.inl ⟨by rfl, ?_⟩) (⟨c0, c1⟩) ?_
                   rotate_left 1
                   · intro u hu
                     (try dsimp only at hu)
                     go_simp
                     try with_reducible rfl
                   simp only [Act.put, List.setIfInBounds_toArray, List.set_cons_zero, List.set_cons_succ])
                | (refine mv_take _ (Or.inr ⟨by rfl, rfl⟩) (⟨c0, c1⟩) ?_
                   simp only [Act.put, List.setIfInBounds_toArray, List.set_cons_zero, List.set_cons_succ])
            iterate 4
              first
                | (refine mv_free ?_ (Or.inl ⟨by rfl, ?_⟩) (⟨c0, c1⟩) ?_
                   rotate_left 1
                   · intro u
                     go_simp
                     try with_reducible rfl
                   simp only [Act.put, List.setIfInBounds_toArray, List.set_cons_zero, List.set_cons_succ])
                | (refine mv_free _ (Or.inr ⟨by rfl, rfl⟩) (⟨c0, c1⟩) ?_
                   simp only [Act.put, List.setIfInBounds_toArray, List.set_cons_zero, List.set_cons_succ])
            iterate 1
              first
                | (refine mv_take ?_ (Or.inl ⟨by rfl, ?_⟩) (⟨c0, c1⟩) ?_
                   rotate_left 1
                   · intro u hu
                     (try dsimp only at hu)
                     go_simp
                     try with_reducible rfl
                   simp only [Act.put, List.setIfInBounds_toArray, List.set_cons_zero, List.set_cons_succ])
                | (refine mv_take _ (Or.inr ⟨by rfl, rfl⟩) (⟨c0, c1⟩) ?_
                   simp only [Act.put, List.setIfInBounds_toArray, List.set_cons_zero, List.set_cons_succ])
            refine mv_step (fun K hK => ?_)
            go_simp
            refine (ST.out _ hx.drew).mono ?_
            rintro e w2 ⟨rfl, hx2, ob2⟩
            go_wp2_with fail
            have hb2 := Below.beside (w := w) hbel.drew (.of_only ob2) (by omega)
            obtain ⟨c0, c1⟩ := hcells.out _ hb2
            have hm2 := Held.beside (b := bm) hm.drew (.of_only ob2) (by omega)
            clear hx hm hbel ST
            refine hK.out _ _ _ (fun u hu => hu) (⟨c0, c1⟩) ?_
            clear hK K
            refine mv_step (fun K hK => ?_)
            go_simp
            refine (RT.out _ hm2).mono ?_
            rintro e w3 ⟨rfl, hm3, ob3⟩
            go_wp2_with fail
            have hb3 := Below.beside (w := w) hb2 ob3 (by omega)
            obtain ⟨c0, c1⟩ := hcells.out _ hb3
            have hx3 := Held.beside (b := b) hx2 ob3 (by omega)
            clear hx2 hm2 hb2 RT
            refine hK.out _ _ _ (fun u hu => hu) (⟨c0, c1⟩) ?_
            clear hK K
            iterate 1
              first
                | (refine mv_free ?_ (Or.inl ⟨by rfl, ?_⟩) (⟨c0, c1⟩) ?_
                   rotate_left 1
                   · intro u
                     go_simp
                     try with_reducible rfl
                   simp only [Act.put, List.setIfInBounds_toArray, List.set_cons_zero, List.set_cons_succ])
                | (refine mv_free _ (Or.inr ⟨by rfl, rfl⟩) (⟨c0, c1⟩) ?_
                   simp only [Act.put, List.setIfInBounds_toArray, List.set_cons_zero, List.set_cons_succ])
            refine mv_done ?_
            go_wp2_with fail
            refine (sages_any b _ hx3).mono ?_
            rintro e w4 ⟨rfl, m4, rfl⟩
            have hx4 := hx3.drewN m4
            have hm4 := hm3.drewN m4
            have hb4 := below_drewN hb3 m4
            clear hx3 hm3 hb3 c0 c1 hcells
            generalize w3.drewN m4 = w5 at *
            obtain ⟨c0, g0⟩ := hm4.one 0 rfl
            obtain ⟨c1, g1⟩ := hm4.one 1 rfl
            obtain ⟨c2, g2⟩ := hm4.one 2 rfl
            obtain ⟨c3, g3⟩ := hm4.one 3 rfl
            obtain ⟨c4, g4⟩ := hm4.one 4 rfl
            obtain ⟨c5, g5⟩ := hm4.one 5 rfl
            obtain ⟨c6, g6⟩ := hm4.one 6 rfl
            obtain ⟨c7, g7⟩ := hm4.one 7 rfl
            obtain ⟨c8, g8⟩ := hm4.one 8 rfl
            obtain ⟨c9, g9⟩ := hm4.one 9 rfl
            go_wp2
            go_roundw
            case rel => exact ⟨k + 1, true, V, A, S, L, by omega, by first | rfl | go_num, Lib.hid ⟨hx4, hm4, hb4, vb.1, vb.2, rb.1, rb.2, sb.1, by omega, lb.1, by omega⟩⟩
            case measure => simp [intOf] <;> omega
        · go_wp2_with (go_at_call 13; refine (lives23 _).mono ?_; rintro e w1 ⟨rfl, hb2⟩)
          go_ret
          exact ⟨rfl, I1.out.bel.trans (hb2.mono I1.out.bel.size)⟩
end Go.Proofs.Ytffhhdjcodapjaa
