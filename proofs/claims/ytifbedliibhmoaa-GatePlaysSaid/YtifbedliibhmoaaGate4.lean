/- The law GatePlays, walked. -/
import Derived.Test.YtifbedliibhmoaaGate3
namespace Go.Proofs.Ytifbedliibhmoaa
open Go.ChangeShapes Go.WideShapes Go.ChangeAt Go.RowKit
set_option linter.unusedVariables false
set_option linter.unusedSimpArgs false

theorem ga_two {w : World} {t : Option Addr} {rows : List (List Value)} (h : Tab [some .i64, some .i64] w t rows) {i : Nat} (hi : i < rows.length) :
    ∃ b off x y, t = some ⟨b, off, none⟩ ∧ b < w.heap.size ∧ ∀ v, Below w.heap.size w v → v.cell? ⟨b, off + i * 2, none⟩ = some (.int .i64 x) ∧ v.cell? ⟨b, off + i * 2 + 1, none⟩ = some (.int .i64 y) := by
  obtain ⟨b, off, r, e, hb, hr, hfl, hc⟩ := h.at hi
  obtain ⟨x, r1, rfl, _, y, r2, rfl, _, h4⟩ := hfl
  exact ⟨b, off, x, y, e, hb, fun v hv => ⟨(bc hv hb).trans (hc 0 _ rfl), (bc hv hb).trans (hc 1 _ rfl)⟩⟩

theorem gaE_bd {lo hi ra la v t : Int} {kn : Bool} (ok : GaOk lo hi ra) (l0 : -549755813887 ≤ la) (l1 : la ≤ 549755813887) (t0 : 1 ≤ t) (t1 : t ≤ 1000) :
    -549755813887 ≤ gaA (gaE lo hi ra la kn t v) v la ∧ gaA (gaE lo hi ra la kn t v) v la ≤ 549755813887 ∧ 0 ≤ gaN (gaE lo hi ra la kn t v) t ∧ gaN (gaE lo hi ra la kn t v) t ≤ t := by
  obtain ⟨o1, o2, o3, o4, o5⟩ := ok
  unfold gaA gaN
  by_cases h : gaE lo hi ra la kn t v = 0
  · rw [if_pos h, if_pos h]
    unfold gaE at h
    split at h
    · simp at h
    · split at h
      · simp at h
      · omega
  · rw [if_neg h, if_neg h]
    omega

set_option maxRecDepth 100000 in
set_option maxHeartbeats 4000000 in
theorem law_GatePlays (lo hi ra : Int) (t : Option Addr) (cap : Nat) (rows : List (List Value)) (w : World) (ht : Tab [some .i64, some .i64] w t rows) (hl : rows.length ≤ maxLen) :
    Calls Try.prog 4 #[.agg #[.int .i64 lo, .int .i64 hi, .int .i64 ra], .slice t rows.length cap] w fun e w' => e = .returned (.bool true) ∧ Below w.heap.size w w' := by
  unfold maxLen at hl
  have hq0 := Held.new w [.int .i64 lo, .int .i64 hi, .int .i64 ra] 23
  have hb0 : Below w.heap.size w (w.alloc (.cells #[.int .i64 lo, .int .i64 hi, .int .i64 ra] 23)) := (Below.refl _ _).alloc (Nat.le_refl _) _
  have GR := Lib.hid (fun u => gright_any lo hi ra u)
  by_cases hbig : 100 < rows.length
  · go_enter Try.func4, Try.ntmps4
    go_wp2_with (go_at_call 24; refine (lives15 _).mono ?_; rintro e w1 ⟨rfl, hb2⟩)
    go_ret
    exact ⟨rfl, hb0.trans (hb2.mono hb0.size)⟩
  · cases hR : gaR lo hi ra
    · rw [hR] at GR
      go_enter Try.func4, Try.ntmps4
      go_wp2_with fail
      refine (GR.out _).mono ?_
      rintro e w1 ⟨rfl, hb1⟩
      have hb1 := hb0.trans (hb1.mono hb0.size)
      go_wp2_with (go_at_call 24; refine (lives15 _).mono ?_; rintro e w1 ⟨rfl, hb2⟩)
      go_ret
      exact ⟨rfl, hb1.trans (hb2.mono hb1.size)⟩
    · have ok := gaR_ok hR
      rw [hR] at GR
      go_enter Try.func4, Try.ntmps4
      go_wp2_with fail
      refine (GR.out _).mono ?_
      rintro e w0 ⟨rfl, hb1⟩
      have hq0 := hq0.bel hb1
      have hb0 := hb0.trans (hb1.mono hb0.size)
      clear hb1 GR
      obtain ⟨q0, f0⟩ := hq0.one 0 rfl
      obtain ⟨q1, f1⟩ := hq0.one 1 rfl
      obtain ⟨q2, f2⟩ := hq0.one 2 rfl
      go_wp2_with fail
      refine (gnew_ok lo hi ra _ hR).mono ?_
      rintro e w1 ⟨b, hb, rfl, k1, hb1⟩
      have hq1 := hq0.bel hb1
      have hbel1 := hb0.trans (hb1.mono hb0.size)
      have hbw : w.heap.size < b := by have := hq0.lt; omega
      clear q0 q1 q2 f0 f1 f2 hq0 hb0 hb1 hb
      obtain ⟨q0, f0⟩ := hq1.one 0 rfl
      obtain ⟨q1, f1⟩ := hq1.one 1 rfl
      obtain ⟨q2, f2⟩ := hq1.one 2 rfl
      go_wp2_with fail
      obtain ⟨bm, ebm⟩ : ∃ bm, w1.heap.size = bm := ⟨_, rfl⟩
      have hbm : b ≠ bm := by have := k1.lt; omega
      have hwm : w.heap.size < bm := by have := hq1.lt; omega
      rw [ebm]
      go_loopw [8] (fun i v => ∃ (k : Nat) (la tk : Int) (kn : Bool), k ≤ rows.length ∧ i = .int .i64 k ∧ 0 ≤ tk ∧ tk ≤ k ∧ -549755813887 ≤ la ∧ la ≤ 549755813887 ∧ Held b (gaC lo hi ra la kn tk) v ∧ Held bm (gaC lo hi ra la kn tk) v ∧ Held w.heap.size [.int .i64 lo, .int .i64 hi, .int .i64 ra] v ∧ Below w.heap.size w v) (fun i _ => rows.length - (intOf i).toNat)
      case atStart =>
        refine ⟨0, 0, 0, false, Nat.zero_le _, rfl, by omega, by omega, by omega, by omega, k1.alloc _, ?_, hq1.alloc _, hbel1.alloc hbel1.size _⟩
        rw [← ebm]
        exact Held.new w1 (gaC lo hi ra 0 false 0) _
      case round =>
        clear q0 q1 q2 f0 f1 f2 k1 hq1 hbel1
        obtain ⟨k, la, tk, kn, hk, rfl, t0, t1, l0, l1, kk, km, hq, hbel⟩ := hrel
        have t2 : tk ≤ 1000 := by omega
        have tb := gaT_bd t0 t2
        have tl : gaT tk ≤ k + 1 := by unfold gaT; omega
        by_cases hlt : k < rows.length
        · obtain ⟨rb, off, x, v, rfl, hrb, hcells⟩ := ga_two ht hlt
          obtain ⟨k0, k1⟩ := hcells wr hbel
          have hcells := Lib.hid hcells
          clear ht
          cases z1 : (x == 1)
          · cases z2 : (x == 2)
            · have eb := gaE_bd (lo := lo) (hi := hi) (ra := ra) (la := la) (v := v) (t := gaT tk) (kn := kn) ok l0 l1 tb.1 tb.2
              have GC := Lib.hid (fun u hu => gcheck_any (lo := lo) (hi := hi) (ra := ra) (la := la) (kn := kn) (tk := tk) b v u hu ok t0 t2 l0 l1)
              have RC := Lib.hid (fun u hu => rgcheck_any (lo := lo) (hi := hi) (ra := ra) (la := la) (kn := kn) (tk := tk) bm v u hu ok t0 t2 l0 l1)
              generalize gaT tk = T at *
              generalize gaE lo hi ra la kn T v = E at *
              generalize gaA E v la = A at *
              generalize gaB E kn = B at *
              generalize gaN E T = N at *
              go_wp2_with fail
              refine region_moves (fun u => u.cell? ⟨rb, off + k * 2, none⟩ = some (.int .i64 x) ∧ u.cell? ⟨rb, off + k * 2 + 1, none⟩ = some (.int .i64 v)) [(12, [(11, 12), (6, 12), (10, 11), (0, 6), (5, 6), (9, 10), (4, 5), (7, 9), (8, 9), (3, 4), (1, 3), (2, 3)])] [(.free, 0), (.free, 1), (.free, 2), (.free, 3), (.free, 4), (.take, 5), (.free, 7), (.free, 8), (.free, 9), (.free, 10), (.take, 11), (.step, 6), (.late, 12), (.free, 13)] _ (by kernel_rfl) (by kernel_rfl) (by kernel_rfl) (by kernel_rfl) (by decide) rfl (fun _ _ _ _ _ h => h) ?_
              simp only [List.filterMap_cons, List.filterMap_nil, List.getElem?_toArray, List.getElem?_cons_zero, List.getElem?_cons_succ, Option.map_some]
              iterate 5
                first
                  | (refine mv_free ?_ (Or.inl ⟨by rfl, ?_⟩) (⟨k0, k1⟩) ?_
                     rotate_left 1
                     · intro u
                       go_simp
                       try with_reducible rfl
                     simp only [Act.put, List.setIfInBounds_toArray, List.set_cons_zero, List.set_cons_succ])
                  | (refine mv_free _ (Or.inr ⟨by rfl, rfl⟩) (⟨k0, k1⟩) ?_
                     simp only [Act.put, List.setIfInBounds_toArray, List.set_cons_zero, List.set_cons_succ])
              iterate 1
                first
                  | (refine mv_take ?_ (Or.inl ⟨by rfl, ?_⟩) (⟨k0, k1⟩) ?_
                     rotate_left 1
                     · intro u hu
                       (try dsimp only at hu)
                       go_simp
                       try with_reducible rfl
                     simp only [Act.put, List.setIfInBounds_toArray, List.set_cons_zero, List.set_cons_succ])
                  | (refine mv_take _ (Or.inr ⟨by rfl, rfl⟩) (⟨k0, k1⟩) ?_
                     simp only [Act.put, List.setIfInBounds_toArray, List.set_cons_zero, List.set_cons_succ])
              iterate 4
                first
                  | (refine mv_free ?_ (Or.inl ⟨by rfl, ?_⟩) (⟨k0, k1⟩) ?_
                     rotate_left 1
                     · intro u
                       go_simp
                       try with_reducible rfl
                     simp only [Act.put, List.setIfInBounds_toArray, List.set_cons_zero, List.set_cons_succ])
                  | (refine mv_free _ (Or.inr ⟨by rfl, rfl⟩) (⟨k0, k1⟩) ?_
                     simp only [Act.put, List.setIfInBounds_toArray, List.set_cons_zero, List.set_cons_succ])
              iterate 1
                first
                  | (refine mv_take ?_ (Or.inl ⟨by rfl, ?_⟩) (⟨k0, k1⟩) ?_
                     rotate_left 1
                     · intro u hu
                       (try dsimp only at hu)
                       go_simp
                       try with_reducible rfl
                     simp only [Act.put, List.setIfInBounds_toArray, List.set_cons_zero, List.set_cons_succ])
                  | (refine mv_take _ (Or.inr ⟨by rfl, rfl⟩) (⟨k0, k1⟩) ?_
                     simp only [Act.put, List.setIfInBounds_toArray, List.set_cons_zero, List.set_cons_succ])
              refine mv_step (fun K hK => ?_)
              go_simp
              refine (GC.out _ kk.drew).mono ?_
              rintro e w3 ⟨rfl, k3, o3⟩
              go_wp2_with fail
              have km3 := Held.beside (b := bm) km.drew o3 (by omega)
              have hq3 := Held.beside hq.drew o3 (by omega)
              have hb3 := Below.beside (w := w) hbel.drew o3 (by omega)
              obtain ⟨r0, r1⟩ := hcells.out _ hb3
              refine hK.out _ _ _ (fun u hu => hu) (⟨r0, r1⟩) ?_
              clear hK K
              refine mv_late (fun K hK => ?_)
              go_simp
              refine (RC.out _ km3).mono ?_
              rintro e w4 ⟨rfl, km4, o4⟩
              go_wp2_with fail
              have k4 := Held.beside (b := b) k3 o4 (by omega)
              have hq4 := Held.beside hq3 o4 (by omega)
              have hb4 := Below.beside (w := w) hb3 o4 (by omega)
              clear k3 km3 hq3 hb3 o3 o4 r0 r1 k0 k1 kk km hq hbel GC RC
              refine hK.out (fun _ => True) _ _ ?_
              clear hK K
              iterate 1
                first
                  | (refine mv_free ?_ (Or.inl ⟨by rfl, ?_⟩) (trivial) ?_
                     rotate_left 1
                     · intro u
                       go_simp
                       try with_reducible rfl
                     simp only [Act.put, List.setIfInBounds_toArray, List.set_cons_zero, List.set_cons_succ])
                  | (refine mv_free _ (Or.inr ⟨by rfl, rfl⟩) (trivial) ?_
                     simp only [Act.put, List.setIfInBounds_toArray, List.set_cons_zero, List.set_cons_succ])
              refine mv_done ?_
              go_wp2_with fail
              refine (glast_any b _ k4).mono ?_
              rintro e w5 ⟨rfl, rfl⟩
              have k5 := k4.drew
              have km5 := km4.drew
              have hq5 := hq4.drew
              have hb5 := hb4.drew
              obtain ⟨p0, g0⟩ := km5.one 0 rfl
              obtain ⟨p1, g1⟩ := km5.one 1 rfl
              obtain ⟨p2, g2⟩ := km5.one 2 rfl
              obtain ⟨p3, g3⟩ := km5.one 3 rfl
              obtain ⟨p4, g4⟩ := km5.one 4 rfl
              obtain ⟨p5, g5⟩ := km5.one 5 rfl
              go_wp2
              go_roundw
              case rel => exact ⟨k + 1, A, N, B, by omega, by go_num, by omega, by push_cast; omega, by omega, by omega, k5, km5, hq5, hb5⟩
              case measure => simp [intOf]; omega
            · go_wp2_with fail
              refine (greset_any b _ kk).mono ?_
              rintro e w3 ⟨rfl, k3, o3⟩
              have km3 := Held.beside (b := bm) km o3 (by omega)
              have hq3 := Held.beside hq o3 (by omega)
              have hb3 := Below.beside (w := w) hbel o3 (by omega)
              clear kk km hq hbel k0 k1
              obtain ⟨q0, f0⟩ := hq3.one 0 rfl
              obtain ⟨q1, f1⟩ := hq3.one 1 rfl
              obtain ⟨q2, f2⟩ := hq3.one 2 rfl
              obtain ⟨p0, g0⟩ := km3.one 0 rfl
              obtain ⟨p1, g1⟩ := km3.one 1 rfl
              obtain ⟨p2, g2⟩ := km3.one 2 rfl
              obtain ⟨p3, g3⟩ := km3.one 3 rfl
              obtain ⟨p4, g4⟩ := km3.one 4 rfl
              obtain ⟨p5, g5⟩ := km3.one 5 rfl
              go_wp2_with fail
              have hv : HB bm (gaC lo hi ra 0 false 0) w3 ((((((w3.setCell ⟨bm, 0, none⟩ (.int .i64 lo)).setCell ⟨bm, 1, none⟩ (.int .i64 hi)).setCell ⟨bm, 2, none⟩ (.int .i64 ra)).setCell ⟨bm, 3, none⟩ (.int .i64 0)).setCell ⟨bm, 4, none⟩ (.bool false)).setCell ⟨bm, 5, none⟩ (.int .i64 0)) := ((((((HB.start km3).set 0 (.int .i64 lo) (by simp [gaC])).set 1 (.int .i64 hi) (by simp [gaC])).set 2 (.int .i64 ra) (by simp [gaC])).set 3 (.int .i64 0) (by simp [gaC])).set 4 (.bool false) (by simp [gaC])).set 5 (.int .i64 0) (by simp [gaC])
              generalize ((((((w3.setCell ⟨bm, 0, none⟩ (.int .i64 lo)).setCell ⟨bm, 1, none⟩ (.int .i64 hi)).setCell ⟨bm, 2, none⟩ (.int .i64 ra)).setCell ⟨bm, 3, none⟩ (.int .i64 0)).setCell ⟨bm, 4, none⟩ (.bool false)).setCell ⟨bm, 5, none⟩ (.int .i64 0)) = w4 at *
              have km4 := hv.held
              have k4 := Held.beside k3 hv.beside hbm
              have hq4 := Held.beside hq3 hv.beside (by omega)
              have hb4 : Below w.heap.size w w4 := Below.beside hb3 hv.beside (by omega)
              clear hv k3 km3 hq3 hb3 q0 q1 q2 f0 f1 f2 p0 p1 p2 p3 p4 p5 g0 g1 g2 g3 g4 g5
              refine (glast_any b _ k4).mono ?_
              rintro e w5 ⟨rfl, rfl⟩
              have k5 := k4.drew
              have km5 := km4.drew
              have hq5 := hq4.drew
              have hb5 := hb4.drew
              obtain ⟨p0, g0⟩ := km5.one 0 rfl
              obtain ⟨p1, g1⟩ := km5.one 1 rfl
              obtain ⟨p2, g2⟩ := km5.one 2 rfl
              obtain ⟨p3, g3⟩ := km5.one 3 rfl
              obtain ⟨p4, g4⟩ := km5.one 4 rfl
              obtain ⟨p5, g5⟩ := km5.one 5 rfl
              go_wp2
              go_roundw
              case rel => exact ⟨k + 1, 0, 0, false, by omega, by go_num, by omega, by omega, by omega, by omega, k5, km5, hq5, hb5⟩
              case measure => simp [intOf]; omega
          · go_wp2_with fail
            refine (gmiss_any b _ kk t0 t2).mono ?_
            rintro e w3 ⟨rfl, k3, o3⟩
            have km3 := Held.beside (b := bm) km o3 (by omega)
            have hq3 := Held.beside hq o3 (by omega)
            have hb3 := Below.beside (w := w) hbel o3 (by omega)
            go_wp2_with fail
            refine (rgmiss_any bm _ km3 t0 t2).mono ?_
            rintro e w4 ⟨rfl, km4, o4⟩
            have k4 := Held.beside (b := b) k3 o4 (by omega)
            have hq4 := Held.beside hq3 o4 (by omega)
            have hb4 := Below.beside (w := w) hb3 o4 (by omega)
            clear k3 km3 hq3 hb3 o3 o4 k0 k1 kk km hq hbel
            go_wp2_with fail
            refine (glast_any b _ k4).mono ?_
            rintro e w5 ⟨rfl, rfl⟩
            have k5 := k4.drew
            have km5 := km4.drew
            have hq5 := hq4.drew
            have hb5 := hb4.drew
            obtain ⟨p0, g0⟩ := km5.one 0 rfl
            obtain ⟨p1, g1⟩ := km5.one 1 rfl
            obtain ⟨p2, g2⟩ := km5.one 2 rfl
            obtain ⟨p3, g3⟩ := km5.one 3 rfl
            obtain ⟨p4, g4⟩ := km5.one 4 rfl
            obtain ⟨p5, g5⟩ := km5.one 5 rfl
            go_wp2
            go_roundw
            case rel => exact ⟨k + 1, la, gaT tk, kn, by omega, by go_num, by omega, by push_cast; omega, l0, l1, k5, km5, hq5, hb5⟩
            case measure => simp [intOf]; omega
        · go_wp2_with (go_at_call 24; refine (lives15 _).mono ?_; rintro e w1 ⟨rfl, hb3⟩)
          go_ret
          exact ⟨rfl, hbel.trans (hb3.mono hbel.size)⟩
end Go.Proofs.Ytifbedliibhmoaa
