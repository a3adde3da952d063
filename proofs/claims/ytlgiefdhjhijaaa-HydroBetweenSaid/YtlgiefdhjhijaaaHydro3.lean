/- The law HydroLearns, walked. -/
import Derived.Test.YtlgiefdhjhijaaaHydro2
namespace Go.Proofs.Ytlgiefdhjhijaaa
open Go.ChangeShapes Go.WideShapes Go.ChangeAt Go.RowKit
set_option linter.unusedVariables false
set_option linter.unusedSimpArgs false

theorem hy_two {w : World} {t : Option Addr} {rows : List (List Value)} (h : Tab [some .i64, some .i64] w t rows) {i : Nat} (hi : i < rows.length) :
    ∃ b off x y, t = some ⟨b, off, none⟩ ∧ b < w.heap.size ∧ ∀ v, Below w.heap.size w v → v.cell? ⟨b, off + i * 2, none⟩ = some (.int .i64 x) ∧ v.cell? ⟨b, off + i * 2 + 1, none⟩ = some (.int .i64 y) := by
  obtain ⟨b, off, r, e, hb, hr, hfl, hc⟩ := h.at hi
  obtain ⟨x, r1, rfl, _, y, r2, rfl, _, h4⟩ := hfl
  exact ⟨b, off, x, y, e, hb, fun v hv => ⟨(bc hv hb).trans (hc 0 _ rfl), (bc hv hb).trans (hc 1 _ rfl)⟩⟩
theorem hd_bd (m h : Int) : -200000000 ≤ hcl m - hcl h ∧ hcl m - hcl h ≤ 200000000 := by have := hcl_bd m; have := hcl_bd h; omega

set_option maxRecDepth 100000 in
set_option maxHeartbeats 4000000 in
theorem law_HydroLearns (gt st : Int) (t : Option Addr) (cap : Nat) (rows : List (List Value)) (h : Int) (w : World) (ht : Tab [some .i64, some .i64] w t rows) (hl : rows.length ≤ maxLen) :
    Calls Try.prog 12 #[.agg #[.int .i64 gt, .int .i64 st], .slice t rows.length cap, .int .i64 h] w fun e w' => e = .returned (.bool true) ∧ Below w.heap.size w w' := by
  unfold maxLen at hl
  have hq0 := Held.new w [.int .i64 gt, .int .i64 st] 45
  have hb0 : Below w.heap.size w (w.alloc (.cells #[.int .i64 gt, .int .i64 st] 45)) := (Below.refl _ _).alloc (Nat.le_refl _) _
  have GR := fun u => hright_any gt st u
  have LV := Lib.hid (fun u => lives19 u)
  by_cases hbig : 60 < rows.length
  · go_enter Try.func12, Try.ntmps12
    go_wp2_with fail
    refine (LV.out _).mono ?_
    rintro e w2 ⟨rfl, hb2⟩
    go_wp2
    go_ret
    exact ⟨rfl, hb0.trans (hb2.mono hb0.size)⟩
  · cases hR : hyR gt st
    · rw [hR] at GR
      replace GR := Lib.hid GR
      go_enter Try.func12, Try.ntmps12
      go_wp2_with fail
      refine (GR.out _).mono ?_
      rintro e w' ⟨rfl, rfl⟩
      go_wp2_with fail
      refine (LV.out _).mono ?_
      rintro e w2 ⟨rfl, hb2⟩
      go_wp2
      go_ret
      exact ⟨rfl, hb0.trans (hb2.mono hb0.size)⟩
    · have ok := hyR_ok hR
      rw [hR] at GR
      replace GR := Lib.hid GR
      go_enter Try.func12, Try.ntmps12
      go_wp2_with fail
      refine (GR.out _).mono ?_
      rintro e w' ⟨rfl, rfl⟩
      obtain ⟨w0, ew0⟩ : ∃ w0, w0 = w.alloc (.cells #[.int .i64 gt, .int .i64 st] 45) := ⟨_, rfl⟩
      have hs0 : w.heap.size < w0.heap.size := by rw [ew0]; simp
      rw [← ew0] at hq0 hb0 ⊢
      clear ew0 GR
      obtain ⟨q0, f0⟩ := hq0.one 0 rfl
      obtain ⟨q1, f1⟩ := hq0.one 1 rfl
      go_wp2_with fail
      refine (hnew_ok gt st _ hR).mono ?_
      rintro e w1 ⟨b, hb, rfl, k1, hb1⟩
      have hq1 := hq0.bel hb1
      have hbel1 := hb0.trans (hb1.mono hb0.size)
      have hbw : w.heap.size < b := by omega
      clear q0 q1 f0 f1 hq0 hb0 hb1 hb hR
      obtain ⟨q0, f0⟩ := hq1.one 0 rfl
      obtain ⟨q1, f1⟩ := hq1.one 1 rfl
      go_wp2_with fail
      obtain ⟨bm, ebm⟩ : ∃ bm, w1.heap.size = bm := ⟨_, rfl⟩
      have hbm : b ≠ bm := by have := k1.lt; omega
      have hwm : w.heap.size < bm := by have := k1.lt; omega
      rw [ebm]
      go_loopw [10] (fun i v => ∃ (k : Nat) (off : Int) (kn : Bool), k ≤ rows.length ∧ i = .int .i64 k ∧ -200000000 ≤ off ∧ off ≤ 200000000 ∧ Held b (hyC gt st off kn) v ∧ Held bm (hyC gt st off kn) v ∧ Below w.heap.size w v) (fun i _ => rows.length - (intOf i).toNat)
      case atStart =>
        refine ⟨0, 0, false, Nat.zero_le _, rfl, by omega, by omega, k1.alloc _, ?_, hbel1.alloc hbel1.size _⟩
        rw [← ebm]
        exact Held.new w1 (hyC gt st 0 false) _
      case round =>
        clear q0 q1 f0 f1 k1 hq1 hbel1
        obtain ⟨k, off, kn, hk, rfl, l0, l1, kk, km, hbel⟩ := hrel
        by_cases hlt : k < rows.length
        · obtain ⟨rb, ro, x, y, rfl, hrb, hcells⟩ := hy_two ht hlt
          obtain ⟨k0, k1⟩ := hcells wr hbel
          have hcells := Lib.hid hcells
          clear ht
          have db := hd_bd x y
          have eb := hyO_bd (gt := gt) (kn := kn) ok.c l0 l1 db.1 db.2
          have LC := Lib.hid (fun u hu => hlearn_any (gt := gt) (st := st) (off := off) (kn := kn) b x y u hu ok l0 l1)
          have RC := Lib.hid (fun u hu => rhlearn_any (gt := gt) (st := st) (off := off) (kn := kn) bm x y u hu ok l0 l1)
          generalize hyE gt off kn (hcl x - hcl y) = E at *
          generalize hyO gt st off kn (hcl x - hcl y) = O at *
          clear db
          go_wp2_with fail
          refine region_moves (fun u => u.cell? ⟨rb, ro + k * 2, none⟩ = some (.int .i64 x) ∧ u.cell? ⟨rb, ro + k * 2 + 1, none⟩ = some (.int .i64 y)) [(22, [(16, 22), (21, 22), (11, 22), (15, 16), (20, 21), (0, 11), (5, 11), (10, 11), (14, 15), (19, 20), (4, 5), (9, 10), (12, 14), (13, 14), (17, 19), (18, 19), (3, 4), (8, 9), (1, 3), (2, 3), (6, 8), (7, 8)])] [(.free, 0), (.free, 1), (.free, 2), (.free, 3), (.free, 4), (.take, 5), (.free, 6), (.free, 7), (.free, 8), (.free, 9), (.take, 10), (.free, 12), (.free, 13), (.free, 14), (.free, 15), (.take, 16), (.free, 17), (.free, 18), (.free, 19), (.free, 20), (.take, 21), (.step, 11), (.late, 22), (.free, 23)] _ (by kernel_rfl) (by kernel_rfl) (by kernel_rfl) (by kernel_rfl) (by decide) rfl (fun _ _ _ _ _ h => h) ?_
          simp only [List.filterMap_cons, List.filterMap_nil, List.getElem?_toArray, List.getElem?_cons_zero, List.getElem?_cons_succ, Option.map_some]
          iterate 5
            first
              | (refine mv_free ?_ (Or.inl ⟨by rfl, ?_⟩) (⟨k0, k1⟩) ?_
                 rotate_left 1
                 · intro u
                   go_simp
                   try simp only [d1]
                   try simp only [d2]
                   try simp only [d3]
                   try with_reducible rfl
                 simp only [Act.put, List.setIfInBounds_toArray, List.set_cons_zero, List.set_cons_succ])
              | (refine mv_free _ (Or.inr ⟨by rfl, rfl⟩) (⟨k0, k1⟩) ?_
                 simp only [Act.put, List.setIfInBounds_toArray, List.set_cons_zero, List.set_cons_succ])
          iterate 1
            first
              | (refine mv_take ?_ (Or.inl ⟨by rfl, ?_⟩) (⟨k0, k1⟩) ?_
                 rotate_left 1
                 · intro u hu
                   (try dsimp only at hu)
                   go_simp
                   try with_reducible rfl
                 simp only [Act.put, List.setIfInBounds_toArray, List.set_cons_zero, List.set_cons_succ])
              | (refine mv_take _ (Or.inr ⟨by rfl, rfl⟩) (⟨k0, k1⟩) ?_
                 simp only [Act.put, List.setIfInBounds_toArray, List.set_cons_zero, List.set_cons_succ])
          iterate 4
            first
              | (refine mv_free ?_ (Or.inl ⟨by rfl, ?_⟩) (⟨k0, k1⟩) ?_
                 rotate_left 1
                 · intro u
                   go_simp
                   try simp only [d1]
                   try simp only [d2]
                   try simp only [d3]
                   try with_reducible rfl
                 simp only [Act.put, List.setIfInBounds_toArray, List.set_cons_zero, List.set_cons_succ])
              | (refine mv_free _ (Or.inr ⟨by rfl, rfl⟩) (⟨k0, k1⟩) ?_
                 simp only [Act.put, List.setIfInBounds_toArray, List.set_cons_zero, List.set_cons_succ])
          iterate 1
            first
              | (refine mv_take ?_ (Or.inl ⟨by rfl, ?_⟩) (⟨k0, k1⟩) ?_
                 rotate_left 1
                 · intro u hu
                   (try dsimp only at hu)
                   go_simp
                   try with_reducible rfl
                 simp only [Act.put, List.setIfInBounds_toArray, List.set_cons_zero, List.set_cons_succ])
              | (refine mv_take _ (Or.inr ⟨by rfl, rfl⟩) (⟨k0, k1⟩) ?_
                 simp only [Act.put, List.setIfInBounds_toArray, List.set_cons_zero, List.set_cons_succ])
          iterate 4
            first
              | (refine mv_free ?_ (Or.inl ⟨by rfl, ?_⟩) (⟨k0, k1⟩) ?_
                 rotate_left 1
                 · intro u
                   go_simp
                   try simp only [d1]
                   try simp only [d2]
                   try simp only [d3]
                   try with_reducible rfl
                 simp only [Act.put, List.setIfInBounds_toArray, List.set_cons_zero, List.set_cons_succ])
              | (refine mv_free _ (Or.inr ⟨by rfl, rfl⟩) (⟨k0, k1⟩) ?_
                 simp only [Act.put, List.setIfInBounds_toArray, List.set_cons_zero, List.set_cons_succ])
          iterate 1
            first
              | (refine mv_take ?_ (Or.inl ⟨by rfl, ?_⟩) (⟨k0, k1⟩) ?_
                 rotate_left 1
                 · intro u hu
                   (try dsimp only at hu)
                   go_simp
                   try with_reducible rfl
                 simp only [Act.put, List.setIfInBounds_toArray, List.set_cons_zero, List.set_cons_succ])
              | (refine mv_take _ (Or.inr ⟨by rfl, rfl⟩) (⟨k0, k1⟩) ?_
                 simp only [Act.put, List.setIfInBounds_toArray, List.set_cons_zero, List.set_cons_succ])
          iterate 4
            first
              | (refine mv_free ?_ (Or.inl ⟨by rfl, ?_⟩) (⟨k0, k1⟩) ?_
                 rotate_left 1
                 · intro u
                   go_simp
                   try simp only [d1]
                   try simp only [d2]
                   try simp only [d3]
                   try with_reducible rfl
                 simp only [Act.put, List.setIfInBounds_toArray, List.set_cons_zero, List.set_cons_succ])
              | (refine mv_free _ (Or.inr ⟨by rfl, rfl⟩) (⟨k0, k1⟩) ?_
                 simp only [Act.put, List.setIfInBounds_toArray, List.set_cons_zero, List.set_cons_succ])
          iterate 1
            first
              | (refine mv_take ?_ (Or.inl ⟨by rfl, ?_⟩) (⟨k0, k1⟩) ?_
                 rotate_left 1
                 · intro u hu
                   (try dsimp only at hu)
                   go_simp
                   try with_reducible rfl
                 simp only [Act.put, List.setIfInBounds_toArray, List.set_cons_zero, List.set_cons_succ])
              | (refine mv_take _ (Or.inr ⟨by rfl, rfl⟩) (⟨k0, k1⟩) ?_
                 simp only [Act.put, List.setIfInBounds_toArray, List.set_cons_zero, List.set_cons_succ])
          refine mv_step (fun K hK => ?_)
          go_simp
          refine (LC.out _ kk.drew).mono ?_
          rintro e w3 ⟨rfl, k3, o3⟩
          go_wp2_with fail
          have km3 := Held.beside (b := bm) km.drew o3 (by omega)
          have hb3 := Below.beside (w := w) hbel.drew o3 (by omega)
          obtain ⟨r0, r1⟩ := hcells.out _ hb3
          refine hK.out _ _ _ (fun u hu => hu) (⟨r0, r1⟩) ?_
          clear hK K
          refine mv_late (fun K hK => ?_)
          go_simp
          refine (RC.out _ km3).mono ?_
          rintro e w4 ⟨rfl, km4, o4⟩
          go_wp2_with fail
          have k4 := Held.beside (b := b) k3 o4 (by omega)
          have hb4 := Below.beside (w := w) hb3 o4 (by omega)
          clear k3 km3 hb3 o3 o4 r0 r1 k0 k1 kk km hbel LC RC
          refine hK.out (fun _ => True) _ _ ?_
          clear hK K
          iterate 1
            first
              | (refine mv_free ?_ (Or.inl ⟨by rfl, ?_⟩) (trivial) ?_
                 rotate_left 1
                 · intro u
                   go_simp
                   try simp only [d1]
                   try simp only [d2]
                   try simp only [d3]
                   try with_reducible rfl
                 simp only [Act.put, List.setIfInBounds_toArray, List.set_cons_zero, List.set_cons_succ])
              | (refine mv_free _ (Or.inr ⟨by rfl, rfl⟩) (trivial) ?_
                 simp only [Act.put, List.setIfInBounds_toArray, List.set_cons_zero, List.set_cons_succ])
          refine mv_done ?_
          go_wp2_with fail
          refine (hoffset_any b _ k4).mono ?_
          rintro e w5 ⟨rfl, hb5⟩
          have k5 := k4.bel hb5
          have km5 := km4.bel hb5
          have hb5 := hb4.trans (hb5.mono hb4.size)
          clear k4 km4 hb4
          obtain ⟨p0, g0⟩ := km5.one 0 rfl
          obtain ⟨p1, g1⟩ := km5.one 1 rfl
          obtain ⟨p2, g2⟩ := km5.one 2 rfl
          obtain ⟨p3, g3⟩ := km5.one 3 rfl
          go_wp2
          go_roundw
          case rel => exact ⟨k + 1, O, true, by omega, by go_num, eb.1, eb.2, k5, km5, hb5⟩
          case measure => simp [intOf]; omega
        · clear ht
          obtain ⟨Z, hz, HN⟩ := air_new
          have ha1 := (HN wr).1
          have ha2 := (HN wr).2.1
          obtain ⟨V, eV⟩ : ∃ V, V = wr.alloc (.cells Z 38) := ⟨_, rfl⟩
          rw [← eV] at ha1 ha2
          replace eV := Lib.hid eV
          obtain ⟨ba, eba⟩ : ∃ ba, wr.heap.size = ba := ⟨_, rfl⟩
          have hba : b ≠ ba := by have := kk.lt; omega
          have hbma : bm ≠ ba := by have := km.lt; omega
          have hwa : w.heap.size ≤ ba := by have := hbel.size; omega
          have kk1 := kk.bel ha2
          have km1 := km.bel ha2
          have hb1 := hbel.trans (ha2.mono hbel.size)
          rw [eba] at ha1
          replace eba := Lib.hid eba
          clear HN ha2 kk km hbel
          obtain ⟨p0, g0⟩ := km1.one 0 rfl
          obtain ⟨p1, g1⟩ := km1.one 1 rfl
          obtain ⟨p2, g2⟩ := km1.one 2 rfl
          obtain ⟨p3, g3⟩ := km1.one 3 rfl
          cases kn
          · go_wp2_with fail
            rw [← eV.out, eba.out]
            refine (hpress_no b _ _ _ kk1).mono ?_
            rintro e w5 ⟨rfl, hb5⟩
            have k5 := kk1.bel hb5
            have km5 := km1.bel hb5
            have hb5 := hb1.trans (hb5.mono hb1.size)
            clear p0 p1 p2 p3 g0 g1 g2 g3 kk1 km1 hb1 ha1
            obtain ⟨p0, g0⟩ := km5.one 0 rfl
            obtain ⟨p1, g1⟩ := km5.one 1 rfl
            obtain ⟨p2, g2⟩ := km5.one 2 rfl
            obtain ⟨p3, g3⟩ := km5.one 3 rfl
            go_wp2_with fail
            refine (hforget_any b _ k5).mono ?_
            rintro e w6 ⟨rfl, k6, o6⟩
            have hb6 := Below.beside (w := w) hb5 o6 (by omega)
            clear p0 p1 p2 p3 g0 g1 g2 g3 km5 hb5 k5 o6
            go_wp2_with fail
            refine (hoffset_any b _ k6).mono ?_
            rintro e w7 ⟨rfl, hb7⟩
            have hb7 := hb6.trans (hb7.mono hb6.size)
            clear k6 hb6
            go_wp2_with fail
            refine (LV.out _).mono ?_
            rintro e w8 ⟨rfl, hb8⟩
            go_wp2
            go_ret
            exact ⟨rfl, hb7.trans (hb8.mono hb7.size)⟩
          · have CH := Lib.hid (fun u => rhclip_any h u)
            have HP := Lib.hid (fun u hu ha => hpress_any (gt := gt) (st := st) (off := off) b ba h u hu ha hba l0 l1)
            have RP := Lib.hid (fun g o c u s => rpress g o c (hcl h - off) u s)
            have bH := hcl_bd h
            have z1 : IntKind.i64.wrap (hcl h - off) = hcl h - off := IntWalk.i64_in _ ⟨by omega, by omega⟩
            generalize hcl h = H at *
            generalize prV (H - off) = P at *
            go_wp2_with fail
            rw [← eV.out, eba.out]
            refine (HP.out _ kk1 (.inl ⟨_, ha1⟩)).mono ?_
            rintro e w5 ⟨rfl, a5, o5⟩
            have k5 := Held.beside kk1 o5 hba
            have km5 := Held.beside km1 o5 hbma
            have hb5 := Below.beside (w := w) hb1 o5 hwa
            clear p0 p1 p2 p3 g0 g1 g2 g3 kk1 km1 hb1 ha1 o5 a5 HP
            obtain ⟨p0, g0⟩ := km5.one 0 rfl
            obtain ⟨p1, g1⟩ := km5.one 1 rfl
            obtain ⟨p2, g2⟩ := km5.one 2 rfl
            obtain ⟨p3, g3⟩ := km5.one 3 rfl
            go_wp2_with fail
            refine region_moves (fun u => u.cell? ⟨bm, 2, none⟩ = some (.int .i64 off)) [] [(.free, 1), (.free, 3), (.take, 4), (.step, 0), (.step, 2), (.free, 5), (.step, 6), (.free, 7)] _ (by kernel_rfl) (by kernel_rfl) (by kernel_rfl) (by kernel_rfl) (by decide) rfl (fun _ _ _ _ _ h => h) ?_
            simp only [List.filterMap_cons, List.filterMap_nil, List.getElem?_toArray, List.getElem?_cons_zero, List.getElem?_cons_succ, Option.map_some]
            iterate 2
              first
                | (refine mv_free ?_ (Or.inl ⟨by rfl, ?_⟩) (p2) ?_
                   rotate_left 1
                   · intro u
                     go_simp
                     try simp only [d1]
                     try simp only [d2]
                     try simp only [d3]
                     try with_reducible rfl
                   simp only [Act.put, List.setIfInBounds_toArray, List.set_cons_zero, List.set_cons_succ])
                | (refine mv_free _ (Or.inr ⟨by rfl, rfl⟩) (p2) ?_
                   simp only [Act.put, List.setIfInBounds_toArray, List.set_cons_zero, List.set_cons_succ])
            iterate 1
              first
                | (refine mv_take ?_ (Or.inl ⟨by rfl, ?_⟩) (p2) ?_
                   rotate_left 1
                   · intro u hu
                     (try dsimp only at hu)
                     go_simp
                     try with_reducible rfl
                   simp only [Act.put, List.setIfInBounds_toArray, List.set_cons_zero, List.set_cons_succ])
                | (refine mv_take _ (Or.inr ⟨by rfl, rfl⟩) (p2) ?_
                   simp only [Act.put, List.setIfInBounds_toArray, List.set_cons_zero, List.set_cons_succ])
            refine mv_step (fun K hK => ?_)
            go_simp
            refine (rsteps _).mono ?_
            rintro e w6 ⟨x, L, rfl, hO, hL, hb6⟩
            obtain ⟨g', o', cp, rfl, s6⟩ := stc_of (w := w) (by have := hb5.size; have := k5.lt; show w.heap.size < w5.heap.size; omega) hO hL
            have k6 := k5.drew.bel hb6
            have km6 := km5.drew.bel hb6
            have hb6 := hb5.drew.trans (hb6.mono hb5.size)
            clear p0 p1 p2 p3 g0 g1 g2 g3 k5 km5 hb5 hO hL
            replace s6 := Lib.hid s6
            obtain ⟨p0, g0⟩ := km6.one 0 rfl
            obtain ⟨p1, g1⟩ := km6.one 1 rfl
            obtain ⟨p2, g2⟩ := km6.one 2 rfl
            obtain ⟨p3, g3⟩ := km6.one 3 rfl
            go_wp2_with fail
            refine hK.out _ _ _ (fun u hu => hu) (p2) ?_
            clear hK K
            refine mv_step (fun K hK => ?_)
            go_simp
            refine (CH.out _).mono ?_
            rintro e w' ⟨rfl, rfl⟩
            go_wp2_with fail
            refine hK.out _ _ _ (fun u hu => hu) (p2) ?_
            clear hK K
            iterate 1
              first
                | (refine mv_free ?_ (Or.inl ⟨by rfl, ?_⟩) (p2) ?_
                   rotate_left 1
                   · intro u
                     go_simp
                     try simp only [d1]
                     try simp only [d2]
                     try simp only [d3]
                     try with_reducible rfl
                   simp only [Act.put, List.setIfInBounds_toArray, List.set_cons_zero, List.set_cons_succ])
                | (refine mv_free _ (Or.inr ⟨by rfl, rfl⟩) (p2) ?_
                   simp only [Act.put, List.setIfInBounds_toArray, List.set_cons_zero, List.set_cons_succ])
            refine mv_step (fun K hK => ?_)
            go_simp
            refine (RP.out g' o' cp _ s6.out.c).mono ?_
            rintro e w7 ⟨rfl, hb7⟩
            have k7 := k6.bel hb7
            have km7 := km6.bel hb7
            have hb7 := hb6.trans (hb7.mono hb6.size)
            clear p0 p1 p2 p3 g0 g1 g2 g3 k6 km6 hb6 s6 RP CH
            obtain ⟨p0, g0⟩ := km7.one 0 rfl
            obtain ⟨p1, g1⟩ := km7.one 1 rfl
            obtain ⟨p2, g2⟩ := km7.one 2 rfl
            obtain ⟨p3, g3⟩ := km7.one 3 rfl
            go_wp2_with fail
            refine hK.out _ _ _ (fun u hu => hu) (p2) ?_
            clear hK K
            iterate 1
              first
                | (refine mv_free ?_ (Or.inl ⟨by rfl, ?_⟩) (p2) ?_
                   rotate_left 1
                   · intro u
                     go_simp
                     try simp only [d1]
                     try simp only [d2]
                     try simp only [d3]
                     try with_reducible rfl
                   simp only [Act.put, List.setIfInBounds_toArray, List.set_cons_zero, List.set_cons_succ])
                | (refine mv_free _ (Or.inr ⟨by rfl, rfl⟩) (p2) ?_
                   simp only [Act.put, List.setIfInBounds_toArray, List.set_cons_zero, List.set_cons_succ])
            refine mv_done ?_
            go_wp2_with fail
            refine (hforget_any b _ k7).mono ?_
            rintro e w8 ⟨rfl, k8, o8⟩
            have hb8 := Below.beside (w := w) hb7 o8 (by omega)
            clear p0 p1 p2 p3 g0 g1 g2 g3 km7 hb7 k7 o8
            go_wp2_with fail
            refine (hoffset_any b _ k8).mono ?_
            rintro e w9 ⟨rfl, hb9⟩
            have hb9 := hb8.trans (hb9.mono hb8.size)
            clear k8 hb8
            go_wp2_with fail
            refine (LV.out _).mono ?_
            rintro e w10 ⟨rfl, hb10⟩
            go_wp2
            go_ret
            exact ⟨rfl, hb9.trans (hb10.mono hb9.size)⟩
end Go.Proofs.Ytlgiefdhjhijaaa
