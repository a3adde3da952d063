/- The law ModesSteps, walked. -/
import Derived.Test.YtifbedliibhmoaaModes7
import Derived.Test.YtifbedliibhmoaaHb
import Derived.Test.YtifbedliibhmoaaReg
namespace Go.Proofs.Ytifbedliibhmoaa
open Go.ChangeShapes Go.WideShapes Go.ChangeAt Go.RowKit
set_option linter.unusedVariables false
set_option linter.unusedSimpArgs false

theorem ms_bd (p md n k : Int) (s : Bool) (n0 : 0 ≤ n) (np : n < p) : 0 ≤ msN p md n k s ∧ msN p md n k s < p := by
  unfold msN
  cases h : msW p md n k s
  · simp; omega
  · simp
    unfold msW at h
    simp at h
    omega

set_option maxRecDepth 100000 in
set_option maxHeartbeats 4000000 in
theorem law_ModesSteps (p : Int) (t : Option Addr) (cap : Nat) (rows : List (List Value)) (rs : Int) (w : World) (ht : Tab [none, none, none, none, none] w t rows) (hl : rows.length ≤ maxLen) :
    Calls Try.prog 12 #[.int .i64 p, .slice t rows.length cap, .int .i64 rs] w fun e w' => e = .returned (.bool true) ∧ Below w.heap.size w w' := by
  unfold maxLen at hl
  by_cases hp : 1 ≤ p ∧ p ≤ 10000
  · obtain ⟨p1, p2⟩ := hp
    go_enter Try.func12, Try.ntmps12
    go_wp2_with fail
    refine (mnew_ok p _ p1 p2).mono ?_
    rintro e w1 ⟨b, hb, rfl, h1, hb1⟩
    by_cases hbig : 200 < rows.length
    · go_wp2_with (go_at_call 43; refine (lives25 _).mono ?_; rintro e w1 ⟨rfl, hb2⟩)
      go_ret
      exact ⟨rfl, hb1.trans (hb2.mono hb1.size)⟩
    · go_wp2_with fail
      obtain ⟨bm, ebm⟩ : ∃ bm, w1.heap.size = bm := ⟨_, rfl⟩
      have hbm : b ≠ bm := by have := h1.lt; omega
      have hwm : w.heap.size ≤ bm := by have := hb1.size; omega
      rw [ebm]
      go_loopw [10] (fun i v => ∃ (k : Nat) (md n c : Int), k ≤ rows.length ∧ i = .int .i64 k ∧ 0 ≤ n ∧ n < p ∧ 0 ≤ c ∧ c ≤ k ∧ Held b (mdC p md n c) v ∧ Held bm (mdC p md n c) v ∧ Below w.heap.size w v) (fun i _ => rows.length - (intOf i).toNat)
      case atStart =>
        refine ⟨0, 0, 0, 0, Nat.zero_le _, rfl, by omega, by omega, by omega, by omega, h1.alloc _, ?_, hb1.alloc hb1.size _⟩
        rw [← ebm]
        exact Held.new w1 (mdC p 0 0 0) _
      case round =>
        obtain ⟨k, md, n, c, hk, rfl, n0, np, c0, c1, hh, hm, hbel⟩ := hrel
        clear h1 hb1
        by_cases hlt : k < rows.length
        · obtain ⟨tb, off, wm, a, bb, s, d, rfl, htb, hcells⟩ := facts_at ht hlt
          have hcells := Lib.hid hcells
          clear ht
          by_cases hrs : (k : Int) = rs
          · have hrs' : ((k : Int) == rs) = true := beq_iff_eq.2 hrs
            clear hrs
            have z0 : (0 : Int) ≤ 0 := by omega
            have zp : (0 : Int) < p := by omega
            go_wp2_with fail
            refine (mreset_any b _ hh).mono ?_
            rintro e w2 ⟨rfl, hh2, o2⟩
            have hm2 := hm.only o2 (by omega)
            have hbel2 : Below w.heap.size w w2 := hbel.trans (o2.below hb)
            clear hh hm hbel
            obtain ⟨q0, f0⟩ := hm2.one 0 rfl
            obtain ⟨q1, f1⟩ := hm2.one 1 rfl
            obtain ⟨q2, f2⟩ := hm2.one 2 rfl
            obtain ⟨q3, f3⟩ := hm2.one 3 rfl
            go_wp2_with fail
            have hm := (hm2.set 1 (.int .i64 0) (by simp [mdC])).set 2 (.int .i64 0) (by simp [mdC])
            have om : Only bm w2 ((w2.setCell ⟨bm, 1, none⟩ (.int .i64 0)).setCell ⟨bm, 2, none⟩ (.int .i64 0)) := ((Only.refl bm w2).setCell (p := ⟨bm, 1, none⟩) _).setCell (p := ⟨bm, 2, none⟩) _
            have hh := hh2.only om hbm
            have hbel := hbel2.trans (om.below hwm)
            clear hm2 hh2 q0 q1 q2 q3 f0 f1 f2 f3 om
            generalize (w2.setCell ⟨bm, 1, none⟩ (.int .i64 0)).setCell ⟨bm, 2, none⟩ (.int .i64 0) = v at *
            obtain ⟨k0, k1, k2, k3, k4⟩ := hcells.out v hbel
            have ST := Lib.hid (fun v (hv : Held b (mdC p 0 0 c) v) => mstep_any b wm a bb s d v hv p2 z0 zp c0 (by omega))
            have RT := Lib.hid (fun v (hv : Held bm (mdC p 0 0 c) v) => rmstep_any bm wm a bb s d v hv p2 z0 zp c0 (by omega))
            have nb := ms_bd p 0 0 (askd wm a bb s d) s z0 zp
            have cb := msC_bd p 0 0 c (askd wm a bb s d) s
            generalize msM p 0 0 (askd wm a bb s d) s = M' at ST RT
            generalize msN p 0 0 (askd wm a bb s d) s = N' at ST RT nb
            generalize msC p 0 0 c (askd wm a bb s d) s = C' at ST RT cb
            go_wp2_with fail
            refine region_moves (fun u => u.cell? ⟨tb, off + k * 5, none⟩ = some (.bool wm) ∧ u.cell? ⟨tb, off + k * 5 + 1, none⟩ = some (.bool a) ∧ u.cell? ⟨tb, off + k * 5 + 2, none⟩ = some (.bool bb) ∧ u.cell? ⟨tb, off + k * 5 + 3, none⟩ = some (.bool s) ∧ u.cell? ⟨tb, off + k * 5 + 4, none⟩ = some (.bool d)) [] [(.take, 0), (.take, 1), (.take, 2), (.take, 3), (.take, 4), (.take, 6), (.take, 7), (.take, 8), (.take, 9), (.step, 5), (.step, 10), (.take, 11), (.take, 12), (.take, 13), (.take, 15), (.take, 16), (.step, 14), (.take, 17), (.take, 18), (.take, 19), (.take, 20), (.take, 22), (.take, 23), (.step, 21), (.take, 24), (.take, 25)] _ (by kernel_rfl) (by kernel_rfl) (by kernel_rfl) (by kernel_rfl) (by decide) rfl (fun _ _ _ _ _ h => h) ?_
            simp only [List.filterMap_cons, List.filterMap_nil, List.getElem?_toArray, List.getElem?_cons_zero, List.getElem?_cons_succ, Option.map_some]
            iterate 9
              first
                | (refine mv_take ?_ (Or.inl ⟨by rfl, ?_⟩) (⟨k0, k1, k2, k3, k4⟩) ?_
                   rotate_left 1
                   · intro u hu
                     (try dsimp only at hu)
                     go_simp
                     try with_reducible rfl
                   simp only [Act.put, List.setIfInBounds_toArray, List.set_cons_zero, List.set_cons_succ])
                | (refine mv_take _ (Or.inr ⟨by rfl, rfl⟩) (⟨k0, k1, k2, k3, k4⟩) ?_
                   simp only [Act.put, List.setIfInBounds_toArray, List.set_cons_zero, List.set_cons_succ])
            refine mv_step (fun K hK => ?_)
            go_simp
            refine (ST.out _ (Held.drew hh)).mono ?_
            rintro e w3 ⟨rfl, hh3, ob3⟩
            go_wp2_with fail
            have hm3 := Held.beside (b := bm) (Held.drew hm) ob3 (by omega)
            have hb3 := Below.beside (w := w) (Below.drew hbel) ob3 (by omega)
            obtain ⟨r0, r1, r2, r3, r4⟩ := hcells.out _ hb3
            refine hK.out _ _ _ (fun u hu => hu) (⟨r0, r1, r2, r3, r4⟩) ?_
            clear hK K
            refine mv_step (fun K hK => ?_)
            go_simp
            refine (RT.out _ hm3).mono ?_
            rintro e w4 ⟨rfl, hm4, ob4⟩
            go_wp2_with fail
            have hh4 := Held.beside (b := b) hh3 ob4 (by omega)
            have hb4 := Below.beside (w := w) hb3 ob4 (by omega)
            clear hh3 hm3 hb3 ob3 r0 r1 r2 r3 r4 k0 k1 k2 k3 k4
            obtain ⟨r0, r1, r2, r3, r4⟩ := hcells.out _ hb4
            obtain ⟨q0, f0⟩ := hm4.one 0 rfl
            obtain ⟨q1, f1⟩ := hm4.one 1 rfl
            obtain ⟨q2, f2⟩ := hm4.one 2 rfl
            obtain ⟨q3, f3⟩ := hm4.one 3 rfl
            refine hK.out (fun u => u = w4) _ _ (fun u hu => by subst hu; exact ⟨r0, r1, r2, r3, r4⟩) (rfl) ?_
            clear hK K
            iterate 5
              first
                | (refine mv_take ?_ (Or.inl ⟨by rfl, ?_⟩) (rfl) ?_
                   rotate_left 1
                   · intro u hu
                     (try dsimp only at hu)
                     go_simp
                     try with_reducible rfl
                   simp only [Act.put, List.setIfInBounds_toArray, List.set_cons_zero, List.set_cons_succ])
                | (refine mv_take _ (Or.inr ⟨by rfl, rfl⟩) (rfl) ?_
                   simp only [Act.put, List.setIfInBounds_toArray, List.set_cons_zero, List.set_cons_succ])
            refine mv_step (fun K hK => ?_)
            go_simp
            refine (mmode_any b _ hh4).mono ?_
            rintro e w' ⟨rfl, rfl⟩
            go_wp2_with fail
            refine hK.out _ _ _ (fun u hu => hu) (rfl) ?_
            clear hK K
            iterate 6
              first
                | (refine mv_take ?_ (Or.inl ⟨by rfl, ?_⟩) (rfl) ?_
                   rotate_left 1
                   · intro u hu
                     (try dsimp only at hu)
                     go_simp
                     try with_reducible rfl
                   simp only [Act.put, List.setIfInBounds_toArray, List.set_cons_zero, List.set_cons_succ])
                | (refine mv_take _ (Or.inr ⟨by rfl, rfl⟩) (rfl) ?_
                   simp only [Act.put, List.setIfInBounds_toArray, List.set_cons_zero, List.set_cons_succ])
            refine mv_step (fun K hK => ?_)
            go_simp
            refine (mchg_any b _ hh4).mono ?_
            rintro e w' ⟨rfl, rfl⟩
            go_wp2_with fail
            refine hK.out _ _ _ (fun u hu => hu) (rfl) ?_
            clear hK K
            iterate 2
              first
                | (refine mv_take ?_ (Or.inl ⟨by rfl, ?_⟩) (rfl) ?_
                   rotate_left 1
                   · intro u hu
                     (try dsimp only at hu)
                     go_simp
                     try with_reducible rfl
                   simp only [Act.put, List.setIfInBounds_toArray, List.set_cons_zero, List.set_cons_succ])
                | (refine mv_take _ (Or.inr ⟨by rfl, rfl⟩) (rfl) ?_
                   simp only [Act.put, List.setIfInBounds_toArray, List.set_cons_zero, List.set_cons_succ])
            refine mv_done ?_
            go_wp2
            go_roundw
            case rel => exact ⟨k + 1, _, _, _, by omega, by go_num, nb.1, nb.2, by omega, by omega, hh4, hm4, hb4⟩
            case measure => simp [intOf]; omega
          · have hrs' : ((k : Int) == rs) = false := beq_eq_false_iff_ne.2 hrs
            obtain ⟨k0, k1, k2, k3, k4⟩ := hcells.out wr hbel
            have ST := Lib.hid (fun v (hv : Held b (mdC p md n c) v) => mstep_any b wm a bb s d v hv p2 n0 np c0 (by omega))
            have RT := Lib.hid (fun v (hv : Held bm (mdC p md n c) v) => rmstep_any bm wm a bb s d v hv p2 n0 np c0 (by omega))
            have nb := ms_bd p md n (askd wm a bb s d) s n0 np
            have cb := msC_bd p md n c (askd wm a bb s d) s
            generalize msM p md n (askd wm a bb s d) s = M' at ST RT
            generalize msN p md n (askd wm a bb s d) s = N' at ST RT nb
            generalize msC p md n c (askd wm a bb s d) s = C' at ST RT cb
            go_wp2_with fail
            refine region_moves (fun u => u.cell? ⟨tb, off + k * 5, none⟩ = some (.bool wm) ∧ u.cell? ⟨tb, off + k * 5 + 1, none⟩ = some (.bool a) ∧ u.cell? ⟨tb, off + k * 5 + 2, none⟩ = some (.bool bb) ∧ u.cell? ⟨tb, off + k * 5 + 3, none⟩ = some (.bool s) ∧ u.cell? ⟨tb, off + k * 5 + 4, none⟩ = some (.bool d)) [] [(.take, 0), (.take, 1), (.take, 2), (.take, 3), (.take, 4), (.take, 6), (.take, 7), (.take, 8), (.take, 9), (.step, 5), (.step, 10), (.take, 11), (.take, 12), (.take, 13), (.take, 15), (.take, 16), (.step, 14), (.take, 17), (.take, 18), (.take, 19), (.take, 20), (.take, 22), (.take, 23), (.step, 21), (.take, 24), (.take, 25)] _ (by kernel_rfl) (by kernel_rfl) (by kernel_rfl) (by kernel_rfl) (by decide) rfl (fun _ _ _ _ _ h => h) ?_
            simp only [List.filterMap_cons, List.filterMap_nil, List.getElem?_toArray, List.getElem?_cons_zero, List.getElem?_cons_succ, Option.map_some]
            iterate 9
              first
                | (refine mv_take ?_ (Or.inl ⟨by rfl, ?_⟩) (⟨k0, k1, k2, k3, k4⟩) ?_
                   rotate_left 1
                   · intro u hu
                     (try dsimp only at hu)
                     go_simp
                     try with_reducible rfl
                   simp only [Act.put, List.setIfInBounds_toArray, List.set_cons_zero, List.set_cons_succ])
                | (refine mv_take _ (Or.inr ⟨by rfl, rfl⟩) (⟨k0, k1, k2, k3, k4⟩) ?_
                   simp only [Act.put, List.setIfInBounds_toArray, List.set_cons_zero, List.set_cons_succ])
            refine mv_step (fun K hK => ?_)
            go_simp
            refine (ST.out _ (Held.drew hh)).mono ?_
            rintro e w3 ⟨rfl, hh3, ob3⟩
            go_wp2_with fail
            have hm3 := Held.beside (b := bm) (Held.drew hm) ob3 (by omega)
            have hb3 := Below.beside (w := w) (Below.drew hbel) ob3 (by omega)
            obtain ⟨r0, r1, r2, r3, r4⟩ := hcells.out _ hb3
            refine hK.out _ _ _ (fun u hu => hu) (⟨r0, r1, r2, r3, r4⟩) ?_
            clear hK K
            refine mv_step (fun K hK => ?_)
            go_simp
            refine (RT.out _ hm3).mono ?_
            rintro e w4 ⟨rfl, hm4, ob4⟩
            go_wp2_with fail
            have hh4 := Held.beside (b := b) hh3 ob4 (by omega)
            have hb4 := Below.beside (w := w) hb3 ob4 (by omega)
            clear hh3 hm3 hb3 ob3 r0 r1 r2 r3 r4 k0 k1 k2 k3 k4
            obtain ⟨r0, r1, r2, r3, r4⟩ := hcells.out _ hb4
            obtain ⟨q0, f0⟩ := hm4.one 0 rfl
            obtain ⟨q1, f1⟩ := hm4.one 1 rfl
            obtain ⟨q2, f2⟩ := hm4.one 2 rfl
            obtain ⟨q3, f3⟩ := hm4.one 3 rfl
            refine hK.out (fun u => u = w4) _ _ (fun u hu => by subst hu; exact ⟨r0, r1, r2, r3, r4⟩) (rfl) ?_
            clear hK K
            iterate 5
              first
                | (refine mv_take ?_ (Or.inl ⟨by rfl, ?_⟩) (rfl) ?_
                   rotate_left 1
                   · intro u hu
                     (try dsimp only at hu)
                     go_simp
                     try with_reducible rfl
                   simp only [Act.put, List.setIfInBounds_toArray, List.set_cons_zero, List.set_cons_succ])
                | (refine mv_take _ (Or.inr ⟨by rfl, rfl⟩) (rfl) ?_
                   simp only [Act.put, List.setIfInBounds_toArray, List.set_cons_zero, List.set_cons_succ])
            refine mv_step (fun K hK => ?_)
            go_simp
            refine (mmode_any b _ hh4).mono ?_
            rintro e w' ⟨rfl, rfl⟩
            go_wp2_with fail
            refine hK.out _ _ _ (fun u hu => hu) (rfl) ?_
            clear hK K
            iterate 6
              first
                | (refine mv_take ?_ (Or.inl ⟨by rfl, ?_⟩) (rfl) ?_
                   rotate_left 1
                   · intro u hu
                     (try dsimp only at hu)
                     go_simp
                     try with_reducible rfl
                   simp only [Act.put, List.setIfInBounds_toArray, List.set_cons_zero, List.set_cons_succ])
                | (refine mv_take _ (Or.inr ⟨by rfl, rfl⟩) (rfl) ?_
                   simp only [Act.put, List.setIfInBounds_toArray, List.set_cons_zero, List.set_cons_succ])
            refine mv_step (fun K hK => ?_)
            go_simp
            refine (mchg_any b _ hh4).mono ?_
            rintro e w' ⟨rfl, rfl⟩
            go_wp2_with fail
            refine hK.out _ _ _ (fun u hu => hu) (rfl) ?_
            clear hK K
            iterate 2
              first
                | (refine mv_take ?_ (Or.inl ⟨by rfl, ?_⟩) (rfl) ?_
                   rotate_left 1
                   · intro u hu
                     (try dsimp only at hu)
                     go_simp
                     try with_reducible rfl
                   simp only [Act.put, List.setIfInBounds_toArray, List.set_cons_zero, List.set_cons_succ])
                | (refine mv_take _ (Or.inr ⟨by rfl, rfl⟩) (rfl) ?_
                   simp only [Act.put, List.setIfInBounds_toArray, List.set_cons_zero, List.set_cons_succ])
            refine mv_done ?_
            go_wp2
            go_roundw
            case rel => exact ⟨k + 1, _, _, _, by omega, by go_num, nb.1, nb.2, by omega, by omega, hh4, hm4, hb4⟩
            case measure => simp [intOf]; omega
        · go_wp2_with (go_at_call 43; refine (lives25 _).mono ?_; rintro e w1 ⟨rfl, hb2⟩)
          go_ret
          exact ⟨rfl, hbel.trans (hb2.mono hbel.size)⟩
  · go_enter Try.func12, Try.ntmps12
    go_wp2_with (first | (go_at_call 42; refine (mnew_no p _ hp).mono ?_; rintro e w1 ⟨rfl, rfl⟩) | (go_at_call 43; refine (lives25 _).mono ?_; rintro e w1 ⟨rfl, hb3⟩))
    go_ret
    exact ⟨rfl, hb3⟩
end Go.Proofs.Ytifbedliibhmoaa
