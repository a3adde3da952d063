/- The laws PairNew and PairSteps, walked. -/
import Derived.Test.YtkchacjlddddjaaPair2
namespace Go.Proofs.Ytkchacjlddddjaa
open Go.ChangeShapes Go.WideShapes Go.ChangeAt Go.RowKit
set_option linter.unusedVariables false
set_option linter.unusedSimpArgs false

set_option maxHeartbeats 4000000 in
theorem law_PairNew (tau x e y f : Int) (w : World) :
    Calls Try.prog 6 #[.int .i64 tau, .agg #[.int .i64 x, .int .i64 e], .agg #[.int .i64 y, .int .i64 f]] w fun r w' => r = .returned (.bool true) ∧ Below w.heap.size w w' := by
  have PS := Lib.hid (fun u => pstep_nil x e y f u)
  by_cases hp : 0 ≤ tau ∧ tau ≤ 549755813887
  · obtain ⟨p1, p2⟩ := hp
    go_enter Try.func6, Try.ntmps6
    go_wp2_with fail
    refine (pnew_ok tau _ p1 p2).mono ?_
    rintro r w1 ⟨b, hb, rfl, h1, hb1⟩
    have hbel : Below w.heap.size w w1 := Below.trans (by repeat (first | exact Below.refl _ _ | assumption | apply Below.drew | apply below_drewN | (refine Below.alloc ?_ (by first | exact Nat.le_refl _ | omega | (simp <;> omega)) _) | (refine Below.setCell ?_ (by first | exact Nat.le_refl _ | omega | (simp <;> omega)) _))) (hb1.mono (by simp; omega))
    have hl0 : w.heap.size + 1 + 1 ≤ w1.heap.size := by have := hb1.size; simp at this; omega
    obtain ⟨hc, hf⟩ := bcell hb1
    go_wp2_with (first | (go_at_call 29; refine (preset_nil _).mono ?_; rintro e w1 ⟨rfl, rfl⟩))
    refine (PS.out _).mono ?_
    rintro r w2 ⟨rfl, hb2⟩
    have h2 := h1.bel hb2
    have hbel2 := hbel.trans (hb2.mono hbel.size)
    go_wp2_with (first | (go_at_call 31; refine (prun_nil _).mono ?_; rintro e w1 ⟨rfl, rfl⟩) | (go_at_call 31; refine (prun_any b _ h2).mono ?_; rintro e w1 ⟨rfl, rfl⟩) | (go_at_call 32; refine (pworst_nil _).mono ?_; rintro e w1 ⟨rfl, rfl⟩) | (go_at_call 32; refine (pworst_any b _ h2).mono ?_; rintro e w1 ⟨rfl, rfl⟩) | (go_at_call 33; refine (lives21 _).mono ?_; rintro e w1 ⟨rfl, hb3⟩))
    go_ret
    exact ⟨rfl, hbel2.trans (hb3.mono hbel2.size)⟩
  · go_enter Try.func6, Try.ntmps6
    go_wp2_with (first | (go_at_call 28; refine (pnew_no tau _ hp).mono ?_; rintro e w1 ⟨rfl, rfl⟩) | (go_at_call 29; refine (preset_nil _).mono ?_; rintro e w1 ⟨rfl, rfl⟩))
    refine (PS.out _).mono ?_
    rintro r w2 ⟨rfl, hb2⟩
    have hbel2 : Below w.heap.size w w2 := Below.trans (by repeat (first | exact Below.refl _ _ | assumption | apply Below.drew | apply below_drewN | (refine Below.alloc ?_ (by first | exact Nat.le_refl _ | omega | (simp <;> omega)) _) | (refine Below.setCell ?_ (by first | exact Nat.le_refl _ | omega | (simp <;> omega)) _))) (hb2.mono (by simp; omega))
    go_wp2_with (first | (go_at_call 31; refine (prun_nil _).mono ?_; rintro e w1 ⟨rfl, rfl⟩) | (go_at_call 32; refine (pworst_nil _).mono ?_; rintro e w1 ⟨rfl, rfl⟩) | (go_at_call 33; refine (lives21 _).mono ?_; rintro e w1 ⟨rfl, hb3⟩))
    all_goals first | (exfalso; omega) | skip
    all_goals
      go_ret
      exact ⟨rfl, hbel2.trans (hb3.mono hbel2.size)⟩

theorem four_at {w : World} {t : Option Addr} {rows : List (List Value)} (h : Tab [some .i64, some .i64, some .i64, some .i64] w t rows) {i : Nat} (hi : i < rows.length) :
    ∃ b off x e y f, t = some ⟨b, off, none⟩ ∧ b < w.heap.size ∧ ∀ v, Below w.heap.size w v → v.cell? ⟨b, off + i * 4, none⟩ = some (.int .i64 x) ∧ v.cell? ⟨b, off + i * 4 + 1, none⟩ = some (.int .i64 e) ∧ v.cell? ⟨b, off + i * 4 + 2, none⟩ = some (.int .i64 y) ∧ v.cell? ⟨b, off + i * 4 + 3, none⟩ = some (.int .i64 f) := by
  obtain ⟨b, off, r, e, hb, hr, hfl, hc⟩ := h.at hi
  obtain ⟨x, r1, rfl, _, e1, r2, rfl, _, y, r3, rfl, _, f, r4, rfl, _, h4⟩ := hfl
  exact ⟨b, off, x, e1, y, f, e, hb, fun v hv => ⟨(bc hv hb).trans (hc 0 _ rfl), (bc hv hb).trans (hc 1 _ rfl), (bc hv hb).trans (hc 2 _ rfl), (bc hv hb).trans (hc 3 _ rfl)⟩⟩

set_option maxRecDepth 100000 in
set_option maxHeartbeats 4000000 in
theorem law_PairSteps (tau : Int) (t : Option Addr) (cap : Nat) (rows : List (List Value)) (w : World) (ht : Tab [some .i64, some .i64, some .i64, some .i64] w t rows) (hl : rows.length ≤ maxLen) :
    Calls Try.prog 7 #[.int .i64 tau, .slice t rows.length cap] w fun e w' => e = .returned (.bool true) ∧ Below w.heap.size w w' := by
  unfold maxLen at hl
  by_cases hp : 0 ≤ tau ∧ tau ≤ 549755813887
  · obtain ⟨p1, p2⟩ := hp
    go_enter Try.func7, Try.ntmps7
    go_wp2_with fail
    refine (pnew_ok tau _ p1 p2).mono ?_
    rintro e w1 ⟨b, hb, rfl, h1, hb1⟩
    by_cases hbig : 100 < rows.length
    · go_wp2_with (go_at_call 33; refine (lives21 _).mono ?_; rintro e w1 ⟨rfl, hb2⟩)
      go_ret
      exact ⟨rfl, hb1.trans (hb2.mono hb1.size)⟩
    · go_wp2_with fail
      go_loopw [7, 8, 9] (fun s7 s8 i u => ∃ (k : Nat) (run worst : Int), k ≤ rows.length ∧ s7 = .int .i64 run ∧ s8 = .int .i64 worst ∧ i = .int .i64 k ∧ 0 ≤ run ∧ run ≤ k ∧ 0 ≤ worst ∧ worst ≤ 1099511627774 ∧ Held b (prC tau run worst) u ∧ Below w.heap.size w u) (fun _ _ i _ => rows.length - (intOf i).toNat)
      case atStart => exact ⟨0, 0, 0, Nat.zero_le _, rfl, rfl, rfl, by omega, by omega, by omega, by omega, h1, hb1⟩
      case round =>
        clear h1 hb1
        obtain ⟨k, run, worst, hk, rfl, rfl, rfl, r0, r1, o1, o2, hh, hbel⟩ := hrel
        by_cases hlt : k < rows.length
        · obtain ⟨tb, off, x, e, y, f, rfl, htb, hcells⟩ := four_at ht hlt
          obtain ⟨k0, k1, k2, k3⟩ := hcells wr hbel
          have hcells := Lib.hid hcells
          clear ht
          have ST := Lib.hid (fun u (hu : Held b (prC tau run worst) u) => pstep_any b x e y f u hu r0 (by omega))
          have VD := Lib.hid (fun u => rverdict_any x e y f tau u)
          have RA := Lib.hid (fun u => rapart_any x y u)
          have vis := vrd_is x e y f tau
          have db := apt_bd x y
          generalize vrd x e y f tau = v at *
          generalize apt x y = d at *
          go_wp2_with fail
          refine region_still [(.take, 0), (.take, 1), (.take, 2), (.take, 3), (.take, 4), (.take, 5), (.take, 6), (.take, 7), (.take, 8), (.take, 9), (.take, 10), (.late, 11), (.take, 12)] _ (by kernel_rfl) (by kernel_rfl) (by kernel_rfl) (by decide) rfl (fun _ _ _ _ _ h => h) ?_
          simp only [List.filterMap_cons, List.filterMap_nil, List.getElem?_toArray, List.getElem?_cons_zero, List.getElem?_cons_succ, Option.map_some]
          iterate 11
            first
              | (refine mv_take ?_ (Or.inl ⟨by rfl, ?_⟩) (rfl) ?_
                 rotate_left 1
                 · intro u hu
                   (try dsimp only at hu)
                   go_simp
                   try with_reducible rfl
                 simp only [Act.put, List.setIfInBounds_toArray, List.set_cons_zero, List.set_cons_succ])
              | (refine mv_take _ (Or.inr ⟨by rfl, rfl⟩) (rfl) ?_
                 simp only [Act.put, List.setIfInBounds_toArray, List.set_cons_zero, List.set_cons_succ])
          refine mv_late (fun K hK => ?_)
          go_simp
          refine (VD.out _).mono ?_
          rintro e w2 ⟨rfl, hb2⟩
          go_wp2_with fail
          have hh2 := hh.drew.bel hb2
          have hbel2 : Below w.heap.size w w2 := hbel.drew.trans (hb2.mono hbel.size)
          obtain ⟨k0, k1, k2, k3⟩ := hcells.out _ hbel2
          clear hh hbel hb2 VD
          refine hK.out (fun _ => True) _ _ ?_
          clear hK K
          iterate 1
            first
              | (refine mv_take ?_ (Or.inl ⟨by rfl, ?_⟩) (trivial) ?_
                 rotate_left 1
                 · intro u hu
                   (try dsimp only at hu)
                   go_simp
                   try with_reducible rfl
                 simp only [Act.put, List.setIfInBounds_toArray, List.set_cons_zero, List.set_cons_succ])
              | (refine mv_take _ (Or.inr ⟨by rfl, rfl⟩) (trivial) ?_
                 simp only [Act.put, List.setIfInBounds_toArray, List.set_cons_zero, List.set_cons_succ])
          refine mv_done ?_
          have vis' : (v = 0 ∨ v = 1) ∨ (v = 2 ∨ v = 3 ∨ v = 4) := by omega
          clear vis
          rcases vis' with vis | vis
          · by_cases hwd : worst < d
            all_goals
              rcases vis with rfl | rfl
            all_goals
              simp only [prR, prW, hwd, ↓reduceIte, Int.reduceEq, or_false, or_true, true_or, or_self] at ST
              go_wp2_with fail
              refine region_still [(.take, 0), (.take, 1), (.take, 2), (.take, 3), (.take, 4), (.take, 5), (.take, 6), (.take, 7), (.take, 8), (.take, 9), (.take, 10), (.take, 11), (.take, 12), (.step, 13), (.take, 14), (.take, 15)] _ (by kernel_rfl) (by kernel_rfl) (by kernel_rfl) (by decide) rfl (fun _ _ _ _ _ h => h) ?_
              simp only [List.filterMap_cons, List.filterMap_nil, List.getElem?_toArray, List.getElem?_cons_zero, List.getElem?_cons_succ, Option.map_some]
              iterate 13
                first
                  | (refine mv_take ?_ (Or.inl ⟨by rfl, ?_⟩) (rfl) ?_
                     rotate_left 1
                     · intro u hu
                       (try dsimp only at hu)
                       go_simp
                       try with_reducible rfl
                     simp only [Act.put, List.setIfInBounds_toArray, List.set_cons_zero, List.set_cons_succ])
                  | (refine mv_take _ (Or.inr ⟨by rfl, rfl⟩) (rfl) ?_
                     simp only [Act.put, List.setIfInBounds_toArray, List.set_cons_zero, List.set_cons_succ])
              refine mv_step (fun K hK => ?_)
              go_simp
              refine (RA.out _).mono ?_
              rintro e w' ⟨rfl, rfl⟩
              go_wp2_with fail
              refine hK.out _ _ _ (fun u hu => hu) (rfl) ?_
              clear hK K
              iterate 2
                first
                  | (refine mv_take ?_ (Or.inl ⟨by rfl, ?_⟩) (rfl) ?_
                     rotate_left 1
                     · intro u hu
                       (try dsimp only at hu)
                       go_simp
                       try with_reducible rfl
                     simp only [Act.put, List.setIfInBounds_toArray, List.set_cons_zero, List.set_cons_succ])
                  | (refine mv_take _ (Or.inr ⟨by rfl, rfl⟩) (rfl) ?_
                     simp only [Act.put, List.setIfInBounds_toArray, List.set_cons_zero, List.set_cons_succ])
              refine mv_done ?_
              go_wp2_with fail
              refine region_moves (fun u => u.cell? ⟨tb, off + k * 4, none⟩ = some (.int .i64 x) ∧ u.cell? ⟨tb, off + k * 4 + 1, none⟩ = some (.int .i64 e) ∧ u.cell? ⟨tb, off + k * 4 + 2, none⟩ = some (.int .i64 y) ∧ u.cell? ⟨tb, off + k * 4 + 3, none⟩ = some (.int .i64 f)) [(.take, 0), (.take, 1), (.take, 2), (.take, 3), (.take, 4), (.take, 5), (.take, 6), (.take, 7), (.take, 8), (.take, 9), (.take, 10), (.take, 12), (.step, 11), (.take, 13), (.take, 14), (.take, 15), (.take, 17), (.step, 16), (.take, 18), (.take, 19), (.take, 20), (.take, 21), (.take, 23), (.step, 22), (.take, 24), (.take, 25)] _ (by kernel_rfl) (by kernel_rfl) (by kernel_rfl) (by decide) rfl (fun _ _ _ _ _ h => h) ?_
              simp only [List.filterMap_cons, List.filterMap_nil, List.getElem?_toArray, List.getElem?_cons_zero, List.getElem?_cons_succ, Option.map_some]
              iterate 12
                first
                  | (refine mv_take ?_ (Or.inl ⟨by rfl, ?_⟩) (⟨k0, k1, k2, k3⟩) ?_
                     rotate_left 1
                     · intro u hu
                       (try dsimp only at hu)
                       go_simp
                       try with_reducible rfl
                     simp only [Act.put, List.setIfInBounds_toArray, List.set_cons_zero, List.set_cons_succ])
                  | (refine mv_take _ (Or.inr ⟨by rfl, rfl⟩) (⟨k0, k1, k2, k3⟩) ?_
                     simp only [Act.put, List.setIfInBounds_toArray, List.set_cons_zero, List.set_cons_succ])
              refine mv_step (fun K hK => ?_)
              go_simp
              refine (ST.out _ hh2.drew.drew).mono ?_
              rintro e w3 ⟨rfl, hh3, ob3⟩
              go_wp2_with fail
              have hb3 := Below.beside (w := w) hbel2.drew.drew ob3 (by omega)
              obtain ⟨k0, k1, k2, k3⟩ := hcells.out _ hb3
              refine hK.out (fun u => u = w3) _ _ (fun u hu => by subst hu; exact ⟨k0, k1, k2, k3⟩) (rfl) ?_
              clear hK K
              iterate 4
                first
                  | (refine mv_take ?_ (Or.inl ⟨by rfl, ?_⟩) (rfl) ?_
                     rotate_left 1
                     · intro u hu
                       (try dsimp only at hu)
                       go_simp
                       try with_reducible rfl
                     simp only [Act.put, List.setIfInBounds_toArray, List.set_cons_zero, List.set_cons_succ])
                  | (refine mv_take _ (Or.inr ⟨by rfl, rfl⟩) (rfl) ?_
                     simp only [Act.put, List.setIfInBounds_toArray, List.set_cons_zero, List.set_cons_succ])
              refine mv_step (fun K hK => ?_)
              go_simp
              refine (prun_any b _ hh3).mono ?_
              rintro e w' ⟨rfl, rfl⟩
              go_wp2_with fail
              refine hK.out _ _ _ (fun u hu => hu) (rfl) ?_
              clear hK K
              iterate 5
                first
                  | (refine mv_take ?_ (Or.inl ⟨by rfl, ?_⟩) (rfl) ?_
                     rotate_left 1
                     · intro u hu
                       (try dsimp only at hu)
                       go_simp
                       try with_reducible rfl
                     simp only [Act.put, List.setIfInBounds_toArray, List.set_cons_zero, List.set_cons_succ])
                  | (refine mv_take _ (Or.inr ⟨by rfl, rfl⟩) (rfl) ?_
                     simp only [Act.put, List.setIfInBounds_toArray, List.set_cons_zero, List.set_cons_succ])
              refine mv_step (fun K hK => ?_)
              go_simp
              refine (pworst_any b _ hh3).mono ?_
              rintro e w' ⟨rfl, rfl⟩
              go_wp2_with fail
              refine hK.out _ _ _ (fun u hu => hu) (rfl) ?_
              clear hK K
              iterate 2
                first
                  | (refine mv_take ?_ (Or.inl ⟨by rfl, ?_⟩) (rfl) ?_
                     rotate_left 1
                     · intro u hu
                       (try dsimp only at hu)
                       go_simp
                       try with_reducible rfl
                     simp only [Act.put, List.setIfInBounds_toArray, List.set_cons_zero, List.set_cons_succ])
                  | (refine mv_take _ (Or.inr ⟨by rfl, rfl⟩) (rfl) ?_
                     simp only [Act.put, List.setIfInBounds_toArray, List.set_cons_zero, List.set_cons_succ])
              refine mv_done ?_
              go_wp2
              go_roundw
              case rel => exact ⟨k + 1, _, _, by omega, rfl, rfl, by go_num, by omega, by push_cast; omega, by omega, by omega, hh3, hb3⟩
              case measure => simp [intOf]; omega
          · rcases vis with rfl | rfl | rfl
            all_goals
              simp only [prR, prW, ↓reduceIte, Int.reduceEq, or_false, or_true, true_or, or_self] at ST
              go_wp2_with fail
              refine region_moves (fun u => u.cell? ⟨tb, off + k * 4, none⟩ = some (.int .i64 x) ∧ u.cell? ⟨tb, off + k * 4 + 1, none⟩ = some (.int .i64 e) ∧ u.cell? ⟨tb, off + k * 4 + 2, none⟩ = some (.int .i64 y) ∧ u.cell? ⟨tb, off + k * 4 + 3, none⟩ = some (.int .i64 f)) [(.take, 0), (.take, 1), (.take, 2), (.take, 3), (.take, 4), (.take, 5), (.take, 6), (.take, 7), (.take, 8), (.take, 9), (.take, 10), (.take, 12), (.step, 11), (.take, 13), (.take, 14), (.take, 15), (.take, 17), (.step, 16), (.take, 18), (.take, 19), (.take, 20), (.take, 21), (.take, 23), (.step, 22), (.take, 24), (.take, 25)] _ (by kernel_rfl) (by kernel_rfl) (by kernel_rfl) (by decide) rfl (fun _ _ _ _ _ h => h) ?_
              simp only [List.filterMap_cons, List.filterMap_nil, List.getElem?_toArray, List.getElem?_cons_zero, List.getElem?_cons_succ, Option.map_some]
              iterate 12
                first
                  | (refine mv_take ?_ (Or.inl ⟨by rfl, ?_⟩) (⟨k0, k1, k2, k3⟩) ?_
                     rotate_left 1
                     · intro u hu
                       (try dsimp only at hu)
                       go_simp
                       try with_reducible rfl
                     simp only [Act.put, List.setIfInBounds_toArray, List.set_cons_zero, List.set_cons_succ])
                  | (refine mv_take _ (Or.inr ⟨by rfl, rfl⟩) (⟨k0, k1, k2, k3⟩) ?_
                     simp only [Act.put, List.setIfInBounds_toArray, List.set_cons_zero, List.set_cons_succ])
              refine mv_step (fun K hK => ?_)
              go_simp
              refine (ST.out _ hh2.drew).mono ?_
              rintro e w3 ⟨rfl, hh3, ob3⟩
              go_wp2_with fail
              have hb3 := Below.beside (w := w) hbel2.drew ob3 (by omega)
              obtain ⟨k0, k1, k2, k3⟩ := hcells.out _ hb3
              refine hK.out (fun u => u = w3) _ _ (fun u hu => by subst hu; exact ⟨k0, k1, k2, k3⟩) (rfl) ?_
              clear hK K
              iterate 4
                first
                  | (refine mv_take ?_ (Or.inl ⟨by rfl, ?_⟩) (rfl) ?_
                     rotate_left 1
                     · intro u hu
                       (try dsimp only at hu)
                       go_simp
                       try with_reducible rfl
                     simp only [Act.put, List.setIfInBounds_toArray, List.set_cons_zero, List.set_cons_succ])
                  | (refine mv_take _ (Or.inr ⟨by rfl, rfl⟩) (rfl) ?_
                     simp only [Act.put, List.setIfInBounds_toArray, List.set_cons_zero, List.set_cons_succ])
              refine mv_step (fun K hK => ?_)
              go_simp
              refine (prun_any b _ hh3).mono ?_
              rintro e w' ⟨rfl, rfl⟩
              go_wp2_with fail
              refine hK.out _ _ _ (fun u hu => hu) (rfl) ?_
              clear hK K
              iterate 5
                first
                  | (refine mv_take ?_ (Or.inl ⟨by rfl, ?_⟩) (rfl) ?_
                     rotate_left 1
                     · intro u hu
                       (try dsimp only at hu)
                       go_simp
                       try with_reducible rfl
                     simp only [Act.put, List.setIfInBounds_toArray, List.set_cons_zero, List.set_cons_succ])
                  | (refine mv_take _ (Or.inr ⟨by rfl, rfl⟩) (rfl) ?_
                     simp only [Act.put, List.setIfInBounds_toArray, List.set_cons_zero, List.set_cons_succ])
              refine mv_step (fun K hK => ?_)
              go_simp
              refine (pworst_any b _ hh3).mono ?_
              rintro e w' ⟨rfl, rfl⟩
              go_wp2_with fail
              refine hK.out _ _ _ (fun u hu => hu) (rfl) ?_
              clear hK K
              iterate 2
                first
                  | (refine mv_take ?_ (Or.inl ⟨by rfl, ?_⟩) (rfl) ?_
                     rotate_left 1
                     · intro u hu
                       (try dsimp only at hu)
                       go_simp
                       try with_reducible rfl
                     simp only [Act.put, List.setIfInBounds_toArray, List.set_cons_zero, List.set_cons_succ])
                  | (refine mv_take _ (Or.inr ⟨by rfl, rfl⟩) (rfl) ?_
                     simp only [Act.put, List.setIfInBounds_toArray, List.set_cons_zero, List.set_cons_succ])
              refine mv_done ?_
              go_wp2
              go_roundw
              case rel => exact ⟨k + 1, _, _, by omega, rfl, rfl, by go_num, by omega, by push_cast; omega, by omega, by omega, hh3, hb3⟩
              case measure => simp [intOf]; omega
        · go_wp2_with fail
          refine (preset_any b _ hh).mono ?_
          rintro e w2 ⟨rfl, hh2, ob2⟩
          have hb2 := Below.beside (w := w) hbel ob2 hb
          go_wp2_with (first | (go_at_call 31; refine (prun_any b _ hh2).mono ?_; rintro e w1 ⟨rfl, rfl⟩) | (go_at_call 32; refine (pworst_any b _ hh2).mono ?_; rintro e w1 ⟨rfl, rfl⟩) | (go_at_call 33; refine (lives21 _).mono ?_; rintro e w1 ⟨rfl, hb5⟩))
          go_ret
          exact ⟨rfl, hb2.trans (hb5.mono hb2.size)⟩
  · go_enter Try.func7, Try.ntmps7
    go_wp2_with (first | (go_at_call 28; refine (pnew_no tau _ hp).mono ?_; rintro e w1 ⟨rfl, rfl⟩) | (go_at_call 33; refine (lives21 _).mono ?_; rintro e w1 ⟨rfl, hb3⟩))
    go_ret
    exact ⟨rfl, hb3⟩
end Go.Proofs.Ytkchacjlddddjaa
