/- The law HydroBetween, walked. -/
import Derived.Test.YtlgiefdhjhijaaaHydro3
namespace Go.Proofs.Ytlgiefdhjhijaaa
open Go.ChangeShapes Go.WideShapes Go.ChangeAt Go.RowKit
set_option linter.unusedVariables false
set_option linter.unusedSimpArgs false

theorem hyE_first (gt off d : Int) : hyE gt off false d = 0 := by simp [hyE]
theorem hyO_first (gt st off d : Int) : hyO gt st off false d = d := by simp [hyO]
theorem hyE_far {gt off d : Int} (h : gt < d - off ∨ gt < off - d) : hyE gt off true d = 2 := by unfold hyE hyF; rw [if_pos (by simpa using h)]
theorem hyO_far {gt st off d : Int} (h : gt < d - off ∨ gt < off - d) : hyO gt st off true d = off := by unfold hyO hyF; rw [if_pos rfl, if_pos (by simpa using h)]
theorem hyE_near {gt off d : Int} (h : ¬ (gt < d - off ∨ gt < off - d)) : hyE gt off true d = 0 := by unfold hyE hyF; rw [if_neg (by simpa using h)]
theorem hyO_near {gt st off d : Int} (h : ¬ (gt < d - off ∨ gt < off - d)) : hyO gt st off true d = c09 d (off - st) (off + st) := by unfold hyO hyF; rw [if_pos rfl, if_neg (by simpa using h)]

set_option maxRecDepth 100000 in
set_option maxHeartbeats 8000000 in
theorem law_HydroBetween (gt st : Int) (t : Option Addr) (cap : Nat) (rows : List (List Value)) (w : World) (ht : Tab [some .i64, some .i64] w t rows) (hl : rows.length ≤ maxLen) :
    Calls Try.prog 13 #[.agg #[.int .i64 gt, .int .i64 st], .slice t rows.length cap] w fun e w' => e = .returned (.bool true) ∧ Below w.heap.size w w' := by
  unfold maxLen at hl
  have hq0 := Held.new w [.int .i64 gt, .int .i64 st] 45
  have hb0 : Below w.heap.size w (w.alloc (.cells #[.int .i64 gt, .int .i64 st] 45)) := (Below.refl _ _).alloc (Nat.le_refl _) _
  have LV := Lib.hid (fun u => lives19 u)
  cases hR : hyR gt st
  · have NW := Lib.hid (fun u => hnew_no gt st u hR)
    by_cases hbig : 60 < rows.length
    all_goals
      go_enter Try.func13, Try.ntmps13
      go_wp2_with fail
      refine (NW.out _).mono ?_
      rintro e w' ⟨rfl, rfl⟩
      go_wp2_with fail
      refine (LV.out _).mono ?_
      rintro e w2 ⟨rfl, hb2⟩
      go_wp2
      go_ret
      exact ⟨rfl, hb0.trans (hb2.mono hb0.size)⟩
  · have ok := hyR_ok hR
    obtain ⟨o1, o2, o3, o4⟩ := hyR_ok hR
    have NW := Lib.hid (fun u => hnew_ok gt st u hR)
    clear hR
    go_enter Try.func13, Try.ntmps13
    go_wp2_with fail
    obtain ⟨w0, ew0⟩ : ∃ w0, w0 = w.alloc (.cells #[.int .i64 gt, .int .i64 st] 45) := ⟨_, rfl⟩
    have hs0 : w.heap.size < w0.heap.size := by rw [ew0]; simp
    rw [← ew0] at hq0 hb0 ⊢
    clear ew0
    refine (NW.out _).mono ?_
    rintro e w1 ⟨b, hb, rfl, k1, hb1⟩
    have hq1 := hq0.bel hb1
    have hbel1 := hb0.trans (hb1.mono hb0.size)
    have hbw : w.heap.size < b := by omega
    clear hq0 hb0 hb1 hb NW
    by_cases hbig : 60 < rows.length
    · go_wp2_with fail
      refine (LV.out _).mono ?_
      rintro e w2 ⟨rfl, hb2⟩
      go_wp2
      go_ret
      exact ⟨rfl, hbel1.trans (hb2.mono hbel1.size)⟩
    · go_wp2_with fail
      go_loopw [7, 8, 9] (fun s7 s8 i v => ∃ (k : Nat) (lo hi off : Int) (kn : Bool), k ≤ rows.length ∧ i = .int .i64 k ∧ s7 = .int .i64 lo ∧ s8 = .int .i64 hi ∧ -200000000 ≤ off ∧ off ≤ 200000000 ∧ (kn = false ∨ (lo ≤ off ∧ off ≤ hi)) ∧ Held b (hyC gt st off kn) v ∧ Held w.heap.size [.int .i64 gt, .int .i64 st] v ∧ Below w.heap.size w v) (fun _ _ i _ => rows.length - (intOf i).toNat)
      case atStart => exact ⟨0, 0, 0, 0, false, Nat.zero_le _, rfl, rfl, rfl, by omega, by omega, .inl rfl, k1, hq1, hbel1⟩
      case round =>
        clear k1 hq1 hbel1
        obtain ⟨k, lo, hi, off, kn, hk, rfl, rfl, rfl, l0, l1, hin, kk, hq, hbel⟩ := hrel
        by_cases hlt : k < rows.length
        · obtain ⟨rb, ro, x, y, rfl, hrb, hcells⟩ := hy_two ht hlt
          obtain ⟨k0, k1⟩ := hcells wr hbel
          have hcells := Lib.hid hcells
          clear ht
          have db := hd_bd x y
          have CX := Lib.hid (fun u => rhclip_any x u)
          have CY := Lib.hid (fun u => rhclip_any y u)
          have z1 : IntKind.i64.wrap (hcl x - hcl y) = hcl x - hcl y := IntWalk.i64_in _ ⟨by omega, by omega⟩
          have LC := fun u hu => hlearn_any (gt := gt) (st := st) (off := off) (kn := kn) b x y u hu ok l0 l1
          generalize hcl x = X at *
          generalize hcl y = Y at *
          cases kn
          · rw [hyE_first, hyO_first] at LC
            clear hin
            replace LC := Lib.hid LC
            go_wp2_with fail
            refine region_moves (fun u => u.cell? ⟨rb, ro + k * 2, none⟩ = some (.int .i64 x) ∧ u.cell? ⟨rb, ro + k * 2 + 1, none⟩ = some (.int .i64 y)) [] [(.free, 0), (.free, 1), (.free, 2), (.free, 3), (.take, 4), (.free, 6), (.free, 7), (.free, 8), (.free, 9), (.take, 10), (.step, 5), (.step, 11), (.free, 12), (.free, 13)] _ (by kernel_rfl) (by kernel_rfl) (by kernel_rfl) (by kernel_rfl) (by decide) rfl (fun _ _ _ _ _ h => h) ?_
            simp only [List.filterMap_cons, List.filterMap_nil, List.getElem?_toArray, List.getElem?_cons_zero, List.getElem?_cons_succ, Option.map_some]
            iterate 4
              first
                | (refine mv_free ?_ (Or.inl ⟨by rfl, ?_⟩) (⟨k0, k1⟩) ?_
                   rotate_left 1
                   · intro u
                     go_simp
                     try simp only [d1]
                     try simp only [d2]
                     try simp only [d3]
                     try with_reducible rfl
                   simp only [Act.put, List.setIfInBounds_toArray, List.set_cons_zero, List.set_cons_succ])
                | (refine mv_free _ (Or.inr ⟨by rfl, rfl⟩) (⟨k0, k1⟩) ?_
                   simp only [Act.put, List.setIfInBounds_toArray, List.set_cons_zero, List.set_cons_succ])
            iterate 1
              first
                | (refine mv_take ?_ (Or.inl ⟨by rfl, ?_⟩) (⟨k0, k1⟩) ?_
                   rotate_left 1
                   · intro u hu
                     (try dsimp only at hu)
                     go_simp
                     try with_reducible rfl
                   simp only [Act.put, List.setIfInBounds_toArray, List.set_cons_zero, List.set_cons_succ])
                | (refine mv_take _ (Or.inr ⟨by rfl, rfl⟩) (⟨k0, k1⟩) ?_
                   simp only [Act.put, List.setIfInBounds_toArray, List.set_cons_zero, List.set_cons_succ])
            iterate 4
              first
                | (refine mv_free ?_ (Or.inl ⟨by rfl, ?_⟩) (⟨k0, k1⟩) ?_
                   rotate_left 1
                   · intro u
                     go_simp
                     try simp only [d1]
                     try simp only [d2]
                     try simp only [d3]
                     try with_reducible rfl
                   simp only [Act.put, List.setIfInBounds_toArray, List.set_cons_zero, List.set_cons_succ])
                | (refine mv_free _ (Or.inr ⟨by rfl, rfl⟩) (⟨k0, k1⟩) ?_
                   simp only [Act.put, List.setIfInBounds_toArray, List.set_cons_zero, List.set_cons_succ])
            iterate 1
              first
                | (refine mv_take ?_ (Or.inl ⟨by rfl, ?_⟩) (⟨k0, k1⟩) ?_
                   rotate_left 1
                   · intro u hu
                     (try dsimp only at hu)
                     go_simp
                     try with_reducible rfl
                   simp only [Act.put, List.setIfInBounds_toArray, List.set_cons_zero, List.set_cons_succ])
                | (refine mv_take _ (Or.inr ⟨by rfl, rfl⟩) (⟨k0, k1⟩) ?_
                   simp only [Act.put, List.setIfInBounds_toArray, List.set_cons_zero, List.set_cons_succ])
            refine mv_step (fun K hK => ?_)
            go_simp
            refine (CX.out _).mono ?_
            rintro e w' ⟨rfl, rfl⟩
            go_wp2_with fail
            refine hK.out _ _ _ (fun u hu => hu) (⟨k0, k1⟩) ?_
            clear hK K
            refine mv_step (fun K hK => ?_)
            go_simp
            refine (CY.out _).mono ?_
            rintro e w' ⟨rfl, rfl⟩
            go_wp2_with fail
            refine hK.out _ _ _ (fun u hu => hu) (⟨k0, k1⟩) ?_
            clear hK K
            iterate 2
              first
                | (refine mv_free ?_ (Or.inl ⟨by rfl, ?_⟩) (⟨k0, k1⟩) ?_
                   rotate_left 1
                   · intro u
                     go_simp
                     try simp only [d1]
                     try simp only [d2]
                     try simp only [d3]
                     try with_reducible rfl
                   simp only [Act.put, List.setIfInBounds_toArray, List.set_cons_zero, List.set_cons_succ])
                | (refine mv_free _ (Or.inr ⟨by rfl, rfl⟩) (⟨k0, k1⟩) ?_
                   simp only [Act.put, List.setIfInBounds_toArray, List.set_cons_zero, List.set_cons_succ])
            refine mv_done ?_
            go_wp2_with fail
            refine (hoffset_any b _ kk.drew).mono ?_
            rintro e w2 ⟨rfl, hb2⟩
            have k2 := kk.drew.bel hb2
            have hq2 := hq.drew.bel hb2
            have hbel2 := hbel.drew.trans (hb2.mono hbel.size)
            obtain ⟨r0, r1⟩ := hcells.out _ hbel2
            clear kk hq hbel hb2 k0 k1 CX CY
            go_wp2_with fail
            refine region_moves (fun u => u.cell? ⟨rb, ro + k * 2, none⟩ = some (.int .i64 x) ∧ u.cell? ⟨rb, ro + k * 2 + 1, none⟩ = some (.int .i64 y)) [(11, [(0, 11), (5, 11), (10, 11), (4, 5), (9, 10), (3, 4), (8, 9), (1, 3), (2, 3), (6, 8), (7, 8)])] [(.free, 0), (.free, 1), (.free, 2), (.free, 3), (.free, 4), (.take, 5), (.free, 6), (.free, 7), (.free, 8), (.free, 9), (.take, 10), (.late, 11), (.free, 12)] _ (by kernel_rfl) (by kernel_rfl) (by kernel_rfl) (by kernel_rfl) (by decide) rfl (fun _ _ _ _ _ h => h) ?_
            simp only [List.filterMap_cons, List.filterMap_nil, List.getElem?_toArray, List.getElem?_cons_zero, List.getElem?_cons_succ, Option.map_some]
            iterate 5
              first
                | (refine mv_free ?_ (Or.inl ⟨by rfl, ?_⟩) (⟨r0, r1⟩) ?_
                   rotate_left 1
                   · intro u
                     go_simp
                     try simp only [d1]
                     try simp only [d2]
                     try simp only [d3]
                     try with_reducible rfl
                   simp only [Act.put, List.setIfInBounds_toArray, List.set_cons_zero, List.set_cons_succ])
                | (refine mv_free _ (Or.inr ⟨by rfl, rfl⟩) (⟨r0, r1⟩) ?_
                   simp only [Act.put, List.setIfInBounds_toArray, List.set_cons_zero, List.set_cons_succ])
            iterate 1
              first
                | (refine mv_take ?_ (Or.inl ⟨by rfl, ?_⟩) (⟨r0, r1⟩) ?_
                   rotate_left 1
                   · intro u hu
                     (try dsimp only at hu)
                     go_simp
                     try with_reducible rfl
                   simp only [Act.put, List.setIfInBounds_toArray, List.set_cons_zero, List.set_cons_succ])
                | (refine mv_take _ (Or.inr ⟨by rfl, rfl⟩) (⟨r0, r1⟩) ?_
                   simp only [Act.put, List.setIfInBounds_toArray, List.set_cons_zero, List.set_cons_succ])
            iterate 4
              first
                | (refine mv_free ?_ (Or.inl ⟨by rfl, ?_⟩) (⟨r0, r1⟩) ?_
                   rotate_left 1
                   · intro u
                     go_simp
                     try simp only [d1]
                     try simp only [d2]
                     try simp only [d3]
                     try with_reducible rfl
                   simp only [Act.put, List.setIfInBounds_toArray, List.set_cons_zero, List.set_cons_succ])
                | (refine mv_free _ (Or.inr ⟨by rfl, rfl⟩) (⟨r0, r1⟩) ?_
                   simp only [Act.put, List.setIfInBounds_toArray, List.set_cons_zero, List.set_cons_succ])
            iterate 1
              first
                | (refine mv_take ?_ (Or.inl ⟨by rfl, ?_⟩) (⟨r0, r1⟩) ?_
                   rotate_left 1
                   · intro u hu
                     (try dsimp only at hu)
                     go_simp
                     try with_reducible rfl
                   simp only [Act.put, List.setIfInBounds_toArray, List.set_cons_zero, List.set_cons_succ])
                | (refine mv_take _ (Or.inr ⟨by rfl, rfl⟩) (⟨r0, r1⟩) ?_
                   simp only [Act.put, List.setIfInBounds_toArray, List.set_cons_zero, List.set_cons_succ])
            refine mv_late (fun K hK => ?_)
            go_simp
            refine (LC.out _ k2.drew).mono ?_
            rintro e w3 ⟨rfl, k3, o3⟩
            go_wp2_with fail
            have hq3 := Held.beside hq2.drew o3 (by omega)
            have hbel3 := Below.beside (w := w) hbel2.drew o3 (by omega)
            clear k2 hq2 hbel2 r0 r1 o3 LC
            refine hK.out (fun _ => True) _ _ ?_
            clear hK K
            iterate 1
              first
                | (refine mv_free ?_ (Or.inl ⟨by rfl, ?_⟩) (trivial) ?_
                   rotate_left 1
                   · intro u
                     go_simp
                     try simp only [d1]
                     try simp only [d2]
                     try simp only [d3]
                     try with_reducible rfl
                   simp only [Act.put, List.setIfInBounds_toArray, List.set_cons_zero, List.set_cons_succ])
                | (refine mv_free _ (Or.inr ⟨by rfl, rfl⟩) (trivial) ?_
                   simp only [Act.put, List.setIfInBounds_toArray, List.set_cons_zero, List.set_cons_succ])
            refine mv_done ?_
            go_wp2_with fail
            refine (hoffset_any b _ k3).mono ?_
            rintro e w4 ⟨rfl, hb4⟩
            have k4 := k3.bel hb4
            have hq4 := hq3.bel hb4
            have hbel4 := hbel3.trans (hb4.mono hbel3.size)
            clear k3 hq3 hbel3 hb4
            obtain ⟨q0, f0⟩ := hq4.one 0 rfl
            obtain ⟨q1, f1⟩ := hq4.one 1 rfl
            go_wp2
            go_roundw
            case rel => exact ⟨k + 1, X - Y, X - Y, X - Y, true, by omega, by go_num, rfl, rfl, by omega, by omega, .inr ⟨by omega, by omega⟩, k4, hq4, hbel4⟩
            case measure => simp [intOf]; omega
          · replace hin : lo ≤ off ∧ off ≤ hi := by rcases hin with h | h; cases h; exact h
            obtain ⟨i1, i2⟩ := hin
            by_cases hf : gt < X - Y - off ∨ gt < off - (X - Y)
            · rw [hyE_far hf, hyO_far hf] at LC
              clear hf
              replace LC := Lib.hid LC
              go_wp2_with fail
              refine region_moves (fun u => u.cell? ⟨rb, ro + k * 2, none⟩ = some (.int .i64 x) ∧ u.cell? ⟨rb, ro + k * 2 + 1, none⟩ = some (.int .i64 y)) [] [(.free, 0), (.free, 1), (.free, 2), (.free, 3), (.take, 4), (.free, 6), (.free, 7), (.free, 8), (.free, 9), (.take, 10), (.step, 5), (.step, 11), (.free, 12), (.free, 13)] _ (by kernel_rfl) (by kernel_rfl) (by kernel_rfl) (by kernel_rfl) (by decide) rfl (fun _ _ _ _ _ h => h) ?_
              simp only [List.filterMap_cons, List.filterMap_nil, List.getElem?_toArray, List.getElem?_cons_zero, List.getElem?_cons_succ, Option.map_some]
              iterate 4
                first
                  | (refine mv_free ?_ (Or.inl ⟨by rfl, ?_⟩) (⟨k0, k1⟩) ?_
                     rotate_left 1
                     · intro u
                       go_simp
                       try simp only [d1]
                       try simp only [d2]
                       try simp only [d3]
                       try with_reducible rfl
                     simp only [Act.put, List.setIfInBounds_toArray, List.set_cons_zero, List.set_cons_succ])
                  | (refine mv_free _ (Or.inr ⟨by rfl, rfl⟩) (⟨k0, k1⟩) ?_
                     simp only [Act.put, List.setIfInBounds_toArray, List.set_cons_zero, List.set_cons_succ])
              iterate 1
                first
                  | (refine mv_take ?_ (Or.inl ⟨by rfl, ?_⟩) (⟨k0, k1⟩) ?_
                     rotate_left 1
                     · intro u hu
                       (try dsimp only at hu)
                       go_simp
                       try with_reducible rfl
                     simp only [Act.put, List.setIfInBounds_toArray, List.set_cons_zero, List.set_cons_succ])
                  | (refine mv_take _ (Or.inr ⟨by rfl, rfl⟩) (⟨k0, k1⟩) ?_
                     simp only [Act.put, List.setIfInBounds_toArray, List.set_cons_zero, List.set_cons_succ])
              iterate 4
                first
                  | (refine mv_free ?_ (Or.inl ⟨by rfl, ?_⟩) (⟨k0, k1⟩) ?_
                     rotate_left 1
                     · intro u
                       go_simp
                       try simp only [d1]
                       try simp only [d2]
                       try simp only [d3]
                       try with_reducible rfl
                     simp only [Act.put, List.setIfInBounds_toArray, List.set_cons_zero, List.set_cons_succ])
                  | (refine mv_free _ (Or.inr ⟨by rfl, rfl⟩) (⟨k0, k1⟩) ?_
                     simp only [Act.put, List.setIfInBounds_toArray, List.set_cons_zero, List.set_cons_succ])
              iterate 1
                first
                  | (refine mv_take ?_ (Or.inl ⟨by rfl, ?_⟩) (⟨k0, k1⟩) ?_
                     rotate_left 1
                     · intro u hu
                       (try dsimp only at hu)
                       go_simp
                       try with_reducible rfl
                     simp only [Act.put, List.setIfInBounds_toArray, List.set_cons_zero, List.set_cons_succ])
                  | (refine mv_take _ (Or.inr ⟨by rfl, rfl⟩) (⟨k0, k1⟩) ?_
                     simp only [Act.put, List.setIfInBounds_toArray, List.set_cons_zero, List.set_cons_succ])
              refine mv_step (fun K hK => ?_)
              go_simp
              refine (CX.out _).mono ?_
              rintro e w' ⟨rfl, rfl⟩
              go_wp2_with fail
              refine hK.out _ _ _ (fun u hu => hu) (⟨k0, k1⟩) ?_
              clear hK K
              refine mv_step (fun K hK => ?_)
              go_simp
              refine (CY.out _).mono ?_
              rintro e w' ⟨rfl, rfl⟩
              go_wp2_with fail
              refine hK.out _ _ _ (fun u hu => hu) (⟨k0, k1⟩) ?_
              clear hK K
              iterate 2
                first
                  | (refine mv_free ?_ (Or.inl ⟨by rfl, ?_⟩) (⟨k0, k1⟩) ?_
                     rotate_left 1
                     · intro u
                       go_simp
                       try simp only [d1]
                       try simp only [d2]
                       try simp only [d3]
                       try with_reducible rfl
                     simp only [Act.put, List.setIfInBounds_toArray, List.set_cons_zero, List.set_cons_succ])
                  | (refine mv_free _ (Or.inr ⟨by rfl, rfl⟩) (⟨k0, k1⟩) ?_
                     simp only [Act.put, List.setIfInBounds_toArray, List.set_cons_zero, List.set_cons_succ])
              refine mv_done ?_
              go_wp2_with fail
              refine (hoffset_any b _ kk.drew).mono ?_
              rintro e w2 ⟨rfl, hb2⟩
              have k2 := kk.drew.bel hb2
              have hq2 := hq.drew.bel hb2
              have hbel2 := hbel.drew.trans (hb2.mono hbel.size)
              obtain ⟨r0, r1⟩ := hcells.out _ hbel2
              clear kk hq hbel hb2 k0 k1 CX CY
              go_wp2_with fail
              refine region_moves (fun u => u.cell? ⟨rb, ro + k * 2, none⟩ = some (.int .i64 x) ∧ u.cell? ⟨rb, ro + k * 2 + 1, none⟩ = some (.int .i64 y)) [(11, [(0, 11), (5, 11), (10, 11), (4, 5), (9, 10), (3, 4), (8, 9), (1, 3), (2, 3), (6, 8), (7, 8)])] [(.free, 0), (.free, 1), (.free, 2), (.free, 3), (.free, 4), (.take, 5), (.free, 6), (.free, 7), (.free, 8), (.free, 9), (.take, 10), (.late, 11), (.free, 12)] _ (by kernel_rfl) (by kernel_rfl) (by kernel_rfl) (by kernel_rfl) (by decide) rfl (fun _ _ _ _ _ h => h) ?_
              simp only [List.filterMap_cons, List.filterMap_nil, List.getElem?_toArray, List.getElem?_cons_zero, List.getElem?_cons_succ, Option.map_some]
              iterate 5
                first
                  | (refine mv_free ?_ (Or.inl ⟨by rfl, ?_⟩) (⟨r0, r1⟩) ?_
                     rotate_left 1
                     · intro u
                       go_simp
                       try simp only [d1]
                       try simp only [d2]
                       try simp only [d3]
                       try with_reducible rfl
                     simp only [Act.put, List.setIfInBounds_toArray, List.set_cons_zero, List.set_cons_succ])
                  | (refine mv_free _ (Or.inr ⟨by rfl, rfl⟩) (⟨r0, r1⟩) ?_
                     simp only [Act.put, List.setIfInBounds_toArray, List.set_cons_zero, List.set_cons_succ])
              iterate 1
                first
                  | (refine mv_take ?_ (Or.inl ⟨by rfl, ?_⟩) (⟨r0, r1⟩) ?_
                     rotate_left 1
                     · intro u hu
                       (try dsimp only at hu)
                       go_simp
                       try with_reducible rfl
                     simp only [Act.put, List.setIfInBounds_toArray, List.set_cons_zero, List.set_cons_succ])
                  | (refine mv_take _ (Or.inr ⟨by rfl, rfl⟩) (⟨r0, r1⟩) ?_
                     simp only [Act.put, List.setIfInBounds_toArray, List.set_cons_zero, List.set_cons_succ])
              iterate 4
                first
                  | (refine mv_free ?_ (Or.inl ⟨by rfl, ?_⟩) (⟨r0, r1⟩) ?_
                     rotate_left 1
                     · intro u
                       go_simp
                       try simp only [d1]
                       try simp only [d2]
                       try simp only [d3]
                       try with_reducible rfl
                     simp only [Act.put, List.setIfInBounds_toArray, List.set_cons_zero, List.set_cons_succ])
                  | (refine mv_free _ (Or.inr ⟨by rfl, rfl⟩) (⟨r0, r1⟩) ?_
                     simp only [Act.put, List.setIfInBounds_toArray, List.set_cons_zero, List.set_cons_succ])
              iterate 1
                first
                  | (refine mv_take ?_ (Or.inl ⟨by rfl, ?_⟩) (⟨r0, r1⟩) ?_
                     rotate_left 1
                     · intro u hu
                       (try dsimp only at hu)
                       go_simp
                       try with_reducible rfl
                     simp only [Act.put, List.setIfInBounds_toArray, List.set_cons_zero, List.set_cons_succ])
                  | (refine mv_take _ (Or.inr ⟨by rfl, rfl⟩) (⟨r0, r1⟩) ?_
                     simp only [Act.put, List.setIfInBounds_toArray, List.set_cons_zero, List.set_cons_succ])
              refine mv_late (fun K hK => ?_)
              go_simp
              refine (LC.out _ k2.drew).mono ?_
              rintro e w3 ⟨rfl, k3, o3⟩
              go_wp2_with fail
              have hq3 := Held.beside hq2.drew o3 (by omega)
              have hbel3 := Below.beside (w := w) hbel2.drew o3 (by omega)
              clear k2 hq2 hbel2 r0 r1 o3 LC
              refine hK.out (fun _ => True) _ _ ?_
              clear hK K
              iterate 1
                first
                  | (refine mv_free ?_ (Or.inl ⟨by rfl, ?_⟩) (trivial) ?_
                     rotate_left 1
                     · intro u
                       go_simp
                       try simp only [d1]
                       try simp only [d2]
                       try simp only [d3]
                       try with_reducible rfl
                     simp only [Act.put, List.setIfInBounds_toArray, List.set_cons_zero, List.set_cons_succ])
                  | (refine mv_free _ (Or.inr ⟨by rfl, rfl⟩) (trivial) ?_
                     simp only [Act.put, List.setIfInBounds_toArray, List.set_cons_zero, List.set_cons_succ])
              refine mv_done ?_
              go_wp2_with fail
              refine (hoffset_any b _ k3).mono ?_
              rintro e w4 ⟨rfl, hb4⟩
              have k4 := k3.bel hb4
              have hq4 := hq3.bel hb4
              have hbel4 := hbel3.trans (hb4.mono hbel3.size)
              clear k3 hq3 hbel3 hb4
              obtain ⟨q0, f0⟩ := hq4.one 0 rfl
              obtain ⟨q1, f1⟩ := hq4.one 1 rfl
              go_wp2
              go_roundw
              case rel => exact ⟨k + 1, lo, hi, off, true, by omega, by go_num, rfl, rfl, by omega, by omega, .inr ⟨by omega, by omega⟩, k4, hq4, hbel4⟩
              case measure => simp [intOf]; omega
            · rw [hyE_near hf, hyO_near hf] at LC
              have g1 : -st ≤ c09 (X - Y) (off - st) (off + st) - off ∧ c09 (X - Y) (off - st) (off + st) - off ≤ st := by unfold c09; omega
              have g2 : (off ≤ c09 (X - Y) (off - st) (off + st) ∧ c09 (X - Y) (off - st) (off + st) ≤ X - Y) ∨ (X - Y ≤ c09 (X - Y) (off - st) (off + st) ∧ c09 (X - Y) (off - st) (off + st) ≤ off) := by unfold c09; omega
              generalize c09 (X - Y) (off - st) (off + st) = O at *
              obtain ⟨g3, g4⟩ := g1
              have f4 : -200000000 ≤ O := by omega
              have f5 : O ≤ 200000000 := by omega
              clear hf
              have z2 : IntKind.i64.wrap (O - off) = O - off := IntWalk.i64_in _ ⟨by omega, by omega⟩
              have z3 : IntKind.i64.wrap (off - O) = off - O := IntWalk.i64_in _ ⟨by omega, by omega⟩
              have g5 : off - O ≤ st := by omega
              rcases (show X - Y < lo ∨ hi < X - Y ∨ (lo ≤ X - Y ∧ X - Y ≤ hi) by omega) with hc | hc | ⟨hc, hc2⟩
              · skip
                have f1 : X - Y ≤ O := by omega
                have f2 : O ≤ hi := by omega
                have f3 : X - Y ≤ hi := by omega
                clear g2
                replace LC := Lib.hid LC
                go_wp2_with fail
                refine region_moves (fun u => u.cell? ⟨rb, ro + k * 2, none⟩ = some (.int .i64 x) ∧ u.cell? ⟨rb, ro + k * 2 + 1, none⟩ = some (.int .i64 y)) [] [(.free, 0), (.free, 1), (.free, 2), (.free, 3), (.take, 4), (.free, 6), (.free, 7), (.free, 8), (.free, 9), (.take, 10), (.step, 5), (.step, 11), (.free, 12), (.free, 13)] _ (by kernel_rfl) (by kernel_rfl) (by kernel_rfl) (by kernel_rfl) (by decide) rfl (fun _ _ _ _ _ h => h) ?_
                simp only [List.filterMap_cons, List.filterMap_nil, List.getElem?_toArray, List.getElem?_cons_zero, List.getElem?_cons_succ, Option.map_some]
                iterate 4
                  first
                    | (refine mv_free ?_ (Or.inl ⟨by rfl, ?_⟩) (⟨k0, k1⟩) ?_
                       rotate_left 1
                       · intro u
                         go_simp
                         try simp only [d1]
                         try simp only [d2]
                         try simp only [d3]
                         try with_reducible rfl
                       simp only [Act.put, List.setIfInBounds_toArray, List.set_cons_zero, List.set_cons_succ])
                    | (refine mv_free _ (Or.inr ⟨by rfl, rfl⟩) (⟨k0, k1⟩) ?_
                       simp only [Act.put, List.setIfInBounds_toArray, List.set_cons_zero, List.set_cons_succ])
                iterate 1
                  first
                    | (refine mv_take ?_ (Or.inl ⟨by rfl, ?_⟩) (⟨k0, k1⟩) ?_
                       rotate_left 1
                       · intro u hu
                         (try dsimp only at hu)
                         go_simp
                         try with_reducible rfl
                       simp only [Act.put, List.setIfInBounds_toArray, List.set_cons_zero, List.set_cons_succ])
                    | (refine mv_take _ (Or.inr ⟨by rfl, rfl⟩) (⟨k0, k1⟩) ?_
                       simp only [Act.put, List.setIfInBounds_toArray, List.set_cons_zero, List.set_cons_succ])
                iterate 4
                  first
                    | (refine mv_free ?_ (Or.inl ⟨by rfl, ?_⟩) (⟨k0, k1⟩) ?_
                       rotate_left 1
                       · intro u
                         go_simp
                         try simp only [d1]
                         try simp only [d2]
                         try simp only [d3]
                         try with_reducible rfl
                       simp only [Act.put, List.setIfInBounds_toArray, List.set_cons_zero, List.set_cons_succ])
                    | (refine mv_free _ (Or.inr ⟨by rfl, rfl⟩) (⟨k0, k1⟩) ?_
                       simp only [Act.put, List.setIfInBounds_toArray, List.set_cons_zero, List.set_cons_succ])
                iterate 1
                  first
                    | (refine mv_take ?_ (Or.inl ⟨by rfl, ?_⟩) (⟨k0, k1⟩) ?_
                       rotate_left 1
                       · intro u hu
                         (try dsimp only at hu)
                         go_simp
                         try with_reducible rfl
                       simp only [Act.put, List.setIfInBounds_toArray, List.set_cons_zero, List.set_cons_succ])
                    | (refine mv_take _ (Or.inr ⟨by rfl, rfl⟩) (⟨k0, k1⟩) ?_
                       simp only [Act.put, List.setIfInBounds_toArray, List.set_cons_zero, List.set_cons_succ])
                refine mv_step (fun K hK => ?_)
                go_simp
                refine (CX.out _).mono ?_
                rintro e w' ⟨rfl, rfl⟩
                go_wp2_with fail
                refine hK.out _ _ _ (fun u hu => hu) (⟨k0, k1⟩) ?_
                clear hK K
                refine mv_step (fun K hK => ?_)
                go_simp
                refine (CY.out _).mono ?_
                rintro e w' ⟨rfl, rfl⟩
                go_wp2_with fail
                refine hK.out _ _ _ (fun u hu => hu) (⟨k0, k1⟩) ?_
                clear hK K
                iterate 2
                  first
                    | (refine mv_free ?_ (Or.inl ⟨by rfl, ?_⟩) (⟨k0, k1⟩) ?_
                       rotate_left 1
                       · intro u
                         go_simp
                         try simp only [d1]
                         try simp only [d2]
                         try simp only [d3]
                         try with_reducible rfl
                       simp only [Act.put, List.setIfInBounds_toArray, List.set_cons_zero, List.set_cons_succ])
                    | (refine mv_free _ (Or.inr ⟨by rfl, rfl⟩) (⟨k0, k1⟩) ?_
                       simp only [Act.put, List.setIfInBounds_toArray, List.set_cons_zero, List.set_cons_succ])
                refine mv_done ?_
                go_wp2_with fail
                refine (hoffset_any b _ kk.drew).mono ?_
                rintro e w2 ⟨rfl, hb2⟩
                have k2 := kk.drew.bel hb2
                have hq2 := hq.drew.bel hb2
                have hbel2 := hbel.drew.trans (hb2.mono hbel.size)
                obtain ⟨r0, r1⟩ := hcells.out _ hbel2
                clear kk hq hbel hb2 k0 k1 CX CY
                go_wp2_with fail
                refine region_moves (fun u => u.cell? ⟨rb, ro + k * 2, none⟩ = some (.int .i64 x) ∧ u.cell? ⟨rb, ro + k * 2 + 1, none⟩ = some (.int .i64 y)) [(11, [(0, 11), (5, 11), (10, 11), (4, 5), (9, 10), (3, 4), (8, 9), (1, 3), (2, 3), (6, 8), (7, 8)])] [(.free, 0), (.free, 1), (.free, 2), (.free, 3), (.free, 4), (.take, 5), (.free, 6), (.free, 7), (.free, 8), (.free, 9), (.take, 10), (.late, 11), (.free, 12)] _ (by kernel_rfl) (by kernel_rfl) (by kernel_rfl) (by kernel_rfl) (by decide) rfl (fun _ _ _ _ _ h => h) ?_
                simp only [List.filterMap_cons, List.filterMap_nil, List.getElem?_toArray, List.getElem?_cons_zero, List.getElem?_cons_succ, Option.map_some]
                iterate 5
                  first
                    | (refine mv_free ?_ (Or.inl ⟨by rfl, ?_⟩) (⟨r0, r1⟩) ?_
                       rotate_left 1
                       · intro u
                         go_simp
                         try simp only [d1]
                         try simp only [d2]
                         try simp only [d3]
                         try with_reducible rfl
                       simp only [Act.put, List.setIfInBounds_toArray, List.set_cons_zero, List.set_cons_succ])
                    | (refine mv_free _ (Or.inr ⟨by rfl, rfl⟩) (⟨r0, r1⟩) ?_
                       simp only [Act.put, List.setIfInBounds_toArray, List.set_cons_zero, List.set_cons_succ])
                iterate 1
                  first
                    | (refine mv_take ?_ (Or.inl ⟨by rfl, ?_⟩) (⟨r0, r1⟩) ?_
                       rotate_left 1
                       · intro u hu
                         (try dsimp only at hu)
                         go_simp
                         try with_reducible rfl
                       simp only [Act.put, List.setIfInBounds_toArray, List.set_cons_zero, List.set_cons_succ])
                    | (refine mv_take _ (Or.inr ⟨by rfl, rfl⟩) (⟨r0, r1⟩) ?_
                       simp only [Act.put, List.setIfInBounds_toArray, List.set_cons_zero, List.set_cons_succ])
                iterate 4
                  first
                    | (refine mv_free ?_ (Or.inl ⟨by rfl, ?_⟩) (⟨r0, r1⟩) ?_
                       rotate_left 1
                       · intro u
                         go_simp
                         try simp only [d1]
                         try simp only [d2]
                         try simp only [d3]
                         try with_reducible rfl
                       simp only [Act.put, List.setIfInBounds_toArray, List.set_cons_zero, List.set_cons_succ])
                    | (refine mv_free _ (Or.inr ⟨by rfl, rfl⟩) (⟨r0, r1⟩) ?_
                       simp only [Act.put, List.setIfInBounds_toArray, List.set_cons_zero, List.set_cons_succ])
                iterate 1
                  first
                    | (refine mv_take ?_ (Or.inl ⟨by rfl, ?_⟩) (⟨r0, r1⟩) ?_
                       rotate_left 1
                       · intro u hu
                         (try dsimp only at hu)
                         go_simp
                         try with_reducible rfl
                       simp only [Act.put, List.setIfInBounds_toArray, List.set_cons_zero, List.set_cons_succ])
                    | (refine mv_take _ (Or.inr ⟨by rfl, rfl⟩) (⟨r0, r1⟩) ?_
                       simp only [Act.put, List.setIfInBounds_toArray, List.set_cons_zero, List.set_cons_succ])
                refine mv_late (fun K hK => ?_)
                go_simp
                refine (LC.out _ k2.drew).mono ?_
                rintro e w3 ⟨rfl, k3, o3⟩
                go_wp2_with fail
                have hq3 := Held.beside hq2.drew o3 (by omega)
                have hbel3 := Below.beside (w := w) hbel2.drew o3 (by omega)
                clear k2 hq2 hbel2 r0 r1 o3 LC
                refine hK.out (fun _ => True) _ _ ?_
                clear hK K
                iterate 1
                  first
                    | (refine mv_free ?_ (Or.inl ⟨by rfl, ?_⟩) (trivial) ?_
                       rotate_left 1
                       · intro u
                         go_simp
                         try simp only [d1]
                         try simp only [d2]
                         try simp only [d3]
                         try with_reducible rfl
                       simp only [Act.put, List.setIfInBounds_toArray, List.set_cons_zero, List.set_cons_succ])
                    | (refine mv_free _ (Or.inr ⟨by rfl, rfl⟩) (trivial) ?_
                       simp only [Act.put, List.setIfInBounds_toArray, List.set_cons_zero, List.set_cons_succ])
                refine mv_done ?_
                go_wp2_with fail
                refine (hoffset_any b _ k3).mono ?_
                rintro e w4 ⟨rfl, hb4⟩
                have k4 := k3.bel hb4
                have hq4 := hq3.bel hb4
                have hbel4 := hbel3.trans (hb4.mono hbel3.size)
                clear k3 hq3 hbel3 hb4
                obtain ⟨q0, f0⟩ := hq4.one 0 rfl
                obtain ⟨q1, f1⟩ := hq4.one 1 rfl
                go_wp2
                go_roundw
                case rel => exact ⟨k + 1, X - Y, hi, O, true, by omega, by go_num, rfl, rfl, by omega, by omega, .inr ⟨by omega, by omega⟩, k4, hq4, hbel4⟩
                case measure => simp [intOf]; omega
              · skip
                have f1 : lo ≤ O := by omega
                have f2 : O ≤ X - Y := by omega
                have f3 : lo ≤ X - Y := by omega
                clear g2
                replace LC := Lib.hid LC
                go_wp2_with fail
                refine region_moves (fun u => u.cell? ⟨rb, ro + k * 2, none⟩ = some (.int .i64 x) ∧ u.cell? ⟨rb, ro + k * 2 + 1, none⟩ = some (.int .i64 y)) [] [(.free, 0), (.free, 1), (.free, 2), (.free, 3), (.take, 4), (.free, 6), (.free, 7), (.free, 8), (.free, 9), (.take, 10), (.step, 5), (.step, 11), (.free, 12), (.free, 13)] _ (by kernel_rfl) (by kernel_rfl) (by kernel_rfl) (by kernel_rfl) (by decide) rfl (fun _ _ _ _ _ h => h) ?_
                simp only [List.filterMap_cons, List.filterMap_nil, List.getElem?_toArray, List.getElem?_cons_zero, List.getElem?_cons_succ, Option.map_some]
                iterate 4
                  first
                    | (refine mv_free ?_ (Or.inl ⟨by rfl, ?_⟩) (⟨k0, k1⟩) ?_
                       rotate_left 1
                       · intro u
                         go_simp
                         try simp only [d1]
                         try simp only [d2]
                         try simp only [d3]
                         try with_reducible rfl
                       simp only [Act.put, List.setIfInBounds_toArray, List.set_cons_zero, List.set_cons_succ])
                    | (refine mv_free _ (Or.inr ⟨by rfl, rfl⟩) (⟨k0, k1⟩) ?_
                       simp only [Act.put, List.setIfInBounds_toArray, List.set_cons_zero, List.set_cons_succ])
                iterate 1
                  first
                    | (refine mv_take ?_ (Or.inl ⟨by rfl, ?_⟩) (⟨k0, k1⟩) ?_
                       rotate_left 1
                       · intro u hu
                         (try dsimp only at hu)
                         go_simp
                         try with_reducible rfl
                       simp only [Act.put, List.setIfInBounds_toArray, List.set_cons_zero, List.set_cons_succ])
                    | (refine mv_take _ (Or.inr ⟨by rfl, rfl⟩) (⟨k0, k1⟩) ?_
                       simp only [Act.put, List.setIfInBounds_toArray, List.set_cons_zero, List.set_cons_succ])
                iterate 4
                  first
                    | (refine mv_free ?_ (Or.inl ⟨by rfl, ?_⟩) (⟨k0, k1⟩) ?_
                       rotate_left 1
                       · intro u
                         go_simp
                         try simp only [d1]
                         try simp only [d2]
                         try simp only [d3]
                         try with_reducible rfl
                       simp only [Act.put, List.setIfInBounds_toArray, List.set_cons_zero, List.set_cons_succ])
                    | (refine mv_free _ (Or.inr ⟨by rfl, rfl⟩) (⟨k0, k1⟩) ?_
                       simp only [Act.put, List.setIfInBounds_toArray, List.set_cons_zero, List.set_cons_succ])
                iterate 1
                  first
                    | (refine mv_take ?_ (Or.inl ⟨by rfl, ?_⟩) (⟨k0, k1⟩) ?_
                       rotate_left 1
                       · intro u hu
                         (try dsimp only at hu)
                         go_simp
                         try with_reducible rfl
                       simp only [Act.put, List.setIfInBounds_toArray, List.set_cons_zero, List.set_cons_succ])
                    | (refine mv_take _ (Or.inr ⟨by rfl, rfl⟩) (⟨k0, k1⟩) ?_
                       simp only [Act.put, List.setIfInBounds_toArray, List.set_cons_zero, List.set_cons_succ])
                refine mv_step (fun K hK => ?_)
                go_simp
                refine (CX.out _).mono ?_
                rintro e w' ⟨rfl, rfl⟩
                go_wp2_with fail
                refine hK.out _ _ _ (fun u hu => hu) (⟨k0, k1⟩) ?_
                clear hK K
                refine mv_step (fun K hK => ?_)
                go_simp
                refine (CY.out _).mono ?_
                rintro e w' ⟨rfl, rfl⟩
                go_wp2_with fail
                refine hK.out _ _ _ (fun u hu => hu) (⟨k0, k1⟩) ?_
                clear hK K
                iterate 2
                  first
                    | (refine mv_free ?_ (Or.inl ⟨by rfl, ?_⟩) (⟨k0, k1⟩) ?_
                       rotate_left 1
                       · intro u
                         go_simp
                         try simp only [d1]
                         try simp only [d2]
                         try simp only [d3]
                         try with_reducible rfl
                       simp only [Act.put, List.setIfInBounds_toArray, List.set_cons_zero, List.set_cons_succ])
                    | (refine mv_free _ (Or.inr ⟨by rfl, rfl⟩) (⟨k0, k1⟩) ?_
                       simp only [Act.put, List.setIfInBounds_toArray, List.set_cons_zero, List.set_cons_succ])
                refine mv_done ?_
                go_wp2_with fail
                refine (hoffset_any b _ kk.drew).mono ?_
                rintro e w2 ⟨rfl, hb2⟩
                have k2 := kk.drew.bel hb2
                have hq2 := hq.drew.bel hb2
                have hbel2 := hbel.drew.trans (hb2.mono hbel.size)
                obtain ⟨r0, r1⟩ := hcells.out _ hbel2
                clear kk hq hbel hb2 k0 k1 CX CY
                go_wp2_with fail
                refine region_moves (fun u => u.cell? ⟨rb, ro + k * 2, none⟩ = some (.int .i64 x) ∧ u.cell? ⟨rb, ro + k * 2 + 1, none⟩ = some (.int .i64 y)) [(11, [(0, 11), (5, 11), (10, 11), (4, 5), (9, 10), (3, 4), (8, 9), (1, 3), (2, 3), (6, 8), (7, 8)])] [(.free, 0), (.free, 1), (.free, 2), (.free, 3), (.free, 4), (.take, 5), (.free, 6), (.free, 7), (.free, 8), (.free, 9), (.take, 10), (.late, 11), (.free, 12)] _ (by kernel_rfl) (by kernel_rfl) (by kernel_rfl) (by kernel_rfl) (by decide) rfl (fun _ _ _ _ _ h => h) ?_
                simp only [List.filterMap_cons, List.filterMap_nil, List.getElem?_toArray, List.getElem?_cons_zero, List.getElem?_cons_succ, Option.map_some]
                iterate 5
                  first
                    | (refine mv_free ?_ (Or.inl ⟨by rfl, ?_⟩) (⟨r0, r1⟩) ?_
                       rotate_left 1
                       · intro u
                         go_simp
                         try simp only [d1]
                         try simp only [d2]
                         try simp only [d3]
                         try with_reducible rfl
                       simp only [Act.put, List.setIfInBounds_toArray, List.set_cons_zero, List.set_cons_succ])
                    | (refine mv_free _ (Or.inr ⟨by rfl, rfl⟩) (⟨r0, r1⟩) ?_
                       simp only [Act.put, List.setIfInBounds_toArray, List.set_cons_zero, List.set_cons_succ])
                iterate 1
                  first
                    | (refine mv_take ?_ (Or.inl ⟨by rfl, ?_⟩) (⟨r0, r1⟩) ?_
                       rotate_left 1
                       · intro u hu
                         (try dsimp only at hu)
                         go_simp
                         try with_reducible rfl
                       simp only [Act.put, List.setIfInBounds_toArray, List.set_cons_zero, List.set_cons_succ])
                    | (refine mv_take _ (Or.inr ⟨by rfl, rfl⟩) (⟨r0, r1⟩) ?_
                       simp only [Act.put, List.setIfInBounds_toArray, List.set_cons_zero, List.set_cons_succ])
                iterate 4
                  first
                    | (refine mv_free ?_ (Or.inl ⟨by rfl, ?_⟩) (⟨r0, r1⟩) ?_
                       rotate_left 1
                       · intro u
                         go_simp
                         try simp only [d1]
                         try simp only [d2]
                         try simp only [d3]
                         try with_reducible rfl
                       simp only [Act.put, List.setIfInBounds_toArray, List.set_cons_zero, List.set_cons_succ])
                    | (refine mv_free _ (Or.inr ⟨by rfl, rfl⟩) (⟨r0, r1⟩) ?_
                       simp only [Act.put, List.setIfInBounds_toArray, List.set_cons_zero, List.set_cons_succ])
                iterate 1
                  first
                    | (refine mv_take ?_ (Or.inl ⟨by rfl, ?_⟩) (⟨r0, r1⟩) ?_
                       rotate_left 1
                       · intro u hu
                         (try dsimp only at hu)
                         go_simp
                         try with_reducible rfl
                       simp only [Act.put, List.setIfInBounds_toArray, List.set_cons_zero, List.set_cons_succ])
                    | (refine mv_take _ (Or.inr ⟨by rfl, rfl⟩) (⟨r0, r1⟩) ?_
                       simp only [Act.put, List.setIfInBounds_toArray, List.set_cons_zero, List.set_cons_succ])
                refine mv_late (fun K hK => ?_)
                go_simp
                refine (LC.out _ k2.drew).mono ?_
                rintro e w3 ⟨rfl, k3, o3⟩
                go_wp2_with fail
                have hq3 := Held.beside hq2.drew o3 (by omega)
                have hbel3 := Below.beside (w := w) hbel2.drew o3 (by omega)
                clear k2 hq2 hbel2 r0 r1 o3 LC
                refine hK.out (fun _ => True) _ _ ?_
                clear hK K
                iterate 1
                  first
                    | (refine mv_free ?_ (Or.inl ⟨by rfl, ?_⟩) (trivial) ?_
                       rotate_left 1
                       · intro u
                         go_simp
                         try simp only [d1]
                         try simp only [d2]
                         try simp only [d3]
                         try with_reducible rfl
                       simp only [Act.put, List.setIfInBounds_toArray, List.set_cons_zero, List.set_cons_succ])
                    | (refine mv_free _ (Or.inr ⟨by rfl, rfl⟩) (trivial) ?_
                       simp only [Act.put, List.setIfInBounds_toArray, List.set_cons_zero, List.set_cons_succ])
                refine mv_done ?_
                go_wp2_with fail
                refine (hoffset_any b _ k3).mono ?_
                rintro e w4 ⟨rfl, hb4⟩
                have k4 := k3.bel hb4
                have hq4 := hq3.bel hb4
                have hbel4 := hbel3.trans (hb4.mono hbel3.size)
                clear k3 hq3 hbel3 hb4
                obtain ⟨q0, f0⟩ := hq4.one 0 rfl
                obtain ⟨q1, f1⟩ := hq4.one 1 rfl
                go_wp2
                go_roundw
                case rel => exact ⟨k + 1, lo, X - Y, O, true, by omega, by go_num, rfl, rfl, by omega, by omega, .inr ⟨by omega, by omega⟩, k4, hq4, hbel4⟩
                case measure => simp [intOf]; omega
              · skip
                have f1 : lo ≤ O := by omega
                have f2 : O ≤ hi := by omega
                clear g2
                replace LC := Lib.hid LC
                go_wp2_with fail
                refine region_moves (fun u => u.cell? ⟨rb, ro + k * 2, none⟩ = some (.int .i64 x) ∧ u.cell? ⟨rb, ro + k * 2 + 1, none⟩ = some (.int .i64 y)) [] [(.free, 0), (.free, 1), (.free, 2), (.free, 3), (.take, 4), (.free, 6), (.free, 7), (.free, 8), (.free, 9), (.take, 10), (.step, 5), (.step, 11), (.free, 12), (.free, 13)] _ (by kernel_rfl) (by kernel_rfl) (by kernel_rfl) (by kernel_rfl) (by decide) rfl (fun _ _ _ _ _ h => h) ?_
                simp only [List.filterMap_cons, List.filterMap_nil, List.getElem?_toArray, List.getElem?_cons_zero, List.getElem?_cons_succ, Option.map_some]
                iterate 4
                  first
                    | (refine mv_free ?_ (Or.inl ⟨by rfl, ?_⟩) (⟨k0, k1⟩) ?_
                       rotate_left 1
                       · intro u
                         go_simp
                         try simp only [d1]
                         try simp only [d2]
                         try simp only [d3]
                         try with_reducible rfl
                       simp only [Act.put, List.setIfInBounds_toArray, List.set_cons_zero, List.set_cons_succ])
                    | (refine mv_free _ (Or.inr ⟨by rfl, rfl⟩) (⟨k0, k1⟩) ?_
                       simp only [Act.put, List.setIfInBounds_toArray, List.set_cons_zero, List.set_cons_succ])
                iterate 1
                  first
                    | (refine mv_take ?_ (Or.inl ⟨by rfl, ?_⟩) (⟨k0, k1⟩) ?_
                       rotate_left 1
                       · intro u hu
                         (try dsimp only at hu)
                         go_simp
                         try with_reducible rfl
                       simp only [Act.put, List.setIfInBounds_toArray, List.set_cons_zero, List.set_cons_succ])
                    | (refine mv_take _ (Or.inr ⟨by rfl, rfl⟩) (⟨k0, k1⟩) ?_
                       simp only [Act.put, List.setIfInBounds_toArray, List.set_cons_zero, List.set_cons_succ])
                iterate 4
                  first
                    | (refine mv_free ?_ (Or.inl ⟨by rfl, ?_⟩) (⟨k0, k1⟩) ?_
                       rotate_left 1
                       · intro u
                         go_simp
                         try simp only [d1]
                         try simp only [d2]
                         try simp only [d3]
                         try with_reducible rfl
                       simp only [Act.put, List.setIfInBounds_toArray, List.set_cons_zero, List.set_cons_succ])
                    | (refine mv_free _ (Or.inr ⟨by rfl, rfl⟩) (⟨k0, k1⟩) ?_
                       simp only [Act.put, List.setIfInBounds_toArray, List.set_cons_zero, List.set_cons_succ])
                iterate 1
                  first
                    | (refine mv_take ?_ (Or.inl ⟨by rfl, ?_⟩) (⟨k0, k1⟩) ?_
                       rotate_left 1
                       · intro u hu
                         (try dsimp only at hu)
                         go_simp
                         try with_reducible rfl
                       simp only [Act.put, List.setIfInBounds_toArray, List.set_cons_zero, List.set_cons_succ])
                    | (refine mv_take _ (Or.inr ⟨by rfl, rfl⟩) (⟨k0, k1⟩) ?_
                       simp only [Act.put, List.setIfInBounds_toArray, List.set_cons_zero, List.set_cons_succ])
                refine mv_step (fun K hK => ?_)
                go_simp
                refine (CX.out _).mono ?_
                rintro e w' ⟨rfl, rfl⟩
                go_wp2_with fail
                refine hK.out _ _ _ (fun u hu => hu) (⟨k0, k1⟩) ?_
                clear hK K
                refine mv_step (fun K hK => ?_)
                go_simp
                refine (CY.out _).mono ?_
                rintro e w' ⟨rfl, rfl⟩
                go_wp2_with fail
                refine hK.out _ _ _ (fun u hu => hu) (⟨k0, k1⟩) ?_
                clear hK K
                iterate 2
                  first
                    | (refine mv_free ?_ (Or.inl ⟨by rfl, ?_⟩) (⟨k0, k1⟩) ?_
                       rotate_left 1
                       · intro u
                         go_simp
                         try simp only [d1]
                         try simp only [d2]
                         try simp only [d3]
                         try with_reducible rfl
                       simp only [Act.put, List.setIfInBounds_toArray, List.set_cons_zero, List.set_cons_succ])
                    | (refine mv_free _ (Or.inr ⟨by rfl, rfl⟩) (⟨k0, k1⟩) ?_
                       simp only [Act.put, List.setIfInBounds_toArray, List.set_cons_zero, List.set_cons_succ])
                refine mv_done ?_
                go_wp2_with fail
                refine (hoffset_any b _ kk.drew).mono ?_
                rintro e w2 ⟨rfl, hb2⟩
                have k2 := kk.drew.bel hb2
                have hq2 := hq.drew.bel hb2
                have hbel2 := hbel.drew.trans (hb2.mono hbel.size)
                obtain ⟨r0, r1⟩ := hcells.out _ hbel2
                clear kk hq hbel hb2 k0 k1 CX CY
                go_wp2_with fail
                refine region_moves (fun u => u.cell? ⟨rb, ro + k * 2, none⟩ = some (.int .i64 x) ∧ u.cell? ⟨rb, ro + k * 2 + 1, none⟩ = some (.int .i64 y)) [(11, [(0, 11), (5, 11), (10, 11), (4, 5), (9, 10), (3, 4), (8, 9), (1, 3), (2, 3), (6, 8), (7, 8)])] [(.free, 0), (.free, 1), (.free, 2), (.free, 3), (.free, 4), (.take, 5), (.free, 6), (.free, 7), (.free, 8), (.free, 9), (.take, 10), (.late, 11), (.free, 12)] _ (by kernel_rfl) (by kernel_rfl) (by kernel_rfl) (by kernel_rfl) (by decide) rfl (fun _ _ _ _ _ h => h) ?_
                simp only [List.filterMap_cons, List.filterMap_nil, List.getElem?_toArray, List.getElem?_cons_zero, List.getElem?_cons_succ, Option.map_some]
                iterate 5
                  first
                    | (refine mv_free ?_ (Or.inl ⟨by rfl, ?_⟩) (⟨r0, r1⟩) ?_
                       rotate_left 1
                       · intro u
                         go_simp
                         try simp only [d1]
                         try simp only [d2]
                         try simp only [d3]
                         try with_reducible rfl
                       simp only [Act.put, List.setIfInBounds_toArray, List.set_cons_zero, List.set_cons_succ])
                    | (refine mv_free _ (Or.inr ⟨by rfl, rfl⟩) (⟨r0, r1⟩) ?_
                       simp only [Act.put, List.setIfInBounds_toArray, List.set_cons_zero, List.set_cons_succ])
                iterate 1
                  first
                    | (refine mv_take ?_ (Or.inl ⟨by rfl, ?_⟩) (⟨r0, r1⟩) ?_
                       rotate_left 1
                       · intro u hu
                         (try dsimp only at hu)
                         go_simp
                         try with_reducible rfl
                       simp only [Act.put, List.setIfInBounds_toArray, List.set_cons_zero, List.set_cons_succ])
                    | (refine mv_take _ (Or.inr ⟨by rfl, rfl⟩) (⟨r0, r1⟩) ?_
                       simp only [Act.put, List.setIfInBounds_toArray, List.set_cons_zero, List.set_cons_succ])
                iterate 4
                  first
                    | (refine mv_free ?_ (Or.inl ⟨by rfl, ?_⟩) (⟨r0, r1⟩) ?_
                       rotate_left 1
                       · intro u
                         go_simp
                         try simp only [d1]
                         try simp only [d2]
                         try simp only [d3]
                         try with_reducible rfl
                       simp only [Act.put, List.setIfInBounds_toArray, List.set_cons_zero, List.set_cons_succ])
                    | (refine mv_free _ (Or.inr ⟨by rfl, rfl⟩) (⟨r0, r1⟩) ?_
                       simp only [Act.put, List.setIfInBounds_toArray, List.set_cons_zero, List.set_cons_succ])
                iterate 1
                  first
                    | (refine mv_take ?_ (Or.inl ⟨by rfl, ?_⟩) (⟨r0, r1⟩) ?_
                       rotate_left 1
                       · intro u hu
                         (try dsimp only at hu)
                         go_simp
                         try with_reducible rfl
                       simp only [Act.put, List.setIfInBounds_toArray, List.set_cons_zero, List.set_cons_succ])
                    | (refine mv_take _ (Or.inr ⟨by rfl, rfl⟩) (⟨r0, r1⟩) ?_
                       simp only [Act.put, List.setIfInBounds_toArray, List.set_cons_zero, List.set_cons_succ])
                refine mv_late (fun K hK => ?_)
                go_simp
                refine (LC.out _ k2.drew).mono ?_
                rintro e w3 ⟨rfl, k3, o3⟩
                go_wp2_with fail
                have hq3 := Held.beside hq2.drew o3 (by omega)
                have hbel3 := Below.beside (w := w) hbel2.drew o3 (by omega)
                clear k2 hq2 hbel2 r0 r1 o3 LC
                refine hK.out (fun _ => True) _ _ ?_
                clear hK K
                iterate 1
                  first
                    | (refine mv_free ?_ (Or.inl ⟨by rfl, ?_⟩) (trivial) ?_
                       rotate_left 1
                       · intro u
                         go_simp
                         try simp only [d1]
                         try simp only [d2]
                         try simp only [d3]
                         try with_reducible rfl
                       simp only [Act.put, List.setIfInBounds_toArray, List.set_cons_zero, List.set_cons_succ])
                    | (refine mv_free _ (Or.inr ⟨by rfl, rfl⟩) (trivial) ?_
                       simp only [Act.put, List.setIfInBounds_toArray, List.set_cons_zero, List.set_cons_succ])
                refine mv_done ?_
                go_wp2_with fail
                refine (hoffset_any b _ k3).mono ?_
                rintro e w4 ⟨rfl, hb4⟩
                have k4 := k3.bel hb4
                have hq4 := hq3.bel hb4
                have hbel4 := hbel3.trans (hb4.mono hbel3.size)
                clear k3 hq3 hbel3 hb4
                obtain ⟨q0, f0⟩ := hq4.one 0 rfl
                obtain ⟨q1, f1⟩ := hq4.one 1 rfl
                go_wp2
                go_roundw
                case rel => exact ⟨k + 1, lo, hi, O, true, by omega, by go_num, rfl, rfl, by omega, by omega, .inr ⟨by omega, by omega⟩, k4, hq4, hbel4⟩
                case measure => simp [intOf]; omega
        · go_wp2_with fail
          refine (LV.out _).mono ?_
          rintro e w2 ⟨rfl, hb2⟩
          go_wp2
          go_ret
          exact ⟨rfl, hbel.trans (hb2.mono hbel.size)⟩
end Go.Proofs.Ytlgiefdhjhijaaa
