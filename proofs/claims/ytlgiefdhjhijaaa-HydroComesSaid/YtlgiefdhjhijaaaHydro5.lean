/- The law HydroComes, walked. -/
import Derived.Test.YtlgiefdhjhijaaaHydro4
namespace Go.Proofs.Ytlgiefdhjhijaaa
open Go.ChangeShapes Go.WideShapes Go.ChangeAt Go.RowKit
set_option linter.unusedVariables false
set_option linter.unusedSimpArgs false

/-- How far there is still to go, behind k of 40 steps. -/
def Nr (st d off : Int) (k : Nat) : Prop := d - off ≤ (40 - (k : Int)) * st ∧ off - d ≤ (40 - (k : Int)) * st
theorem nr_start {st d off : Int} (h : ¬ (40 * st < d - off ∨ 40 * st < off - d)) : Nr st d off 0 := by unfold Nr; simp; omega
theorem nr_step {st d off : Int} {k : Nat} (s : 1 ≤ st) (h : Nr st d off k) (hk : k < 40) : Nr st d (c09 d (off - st) (off + st)) (k + 1) := by
  unfold Nr at *
  have e : (40 - ((k + 1 : Nat) : Int)) * st = (40 - (k : Int)) * st - st := by rw [show (40 - ((k + 1 : Nat) : Int)) = (40 - (k : Int)) - 1 by push_cast; omega, Int.sub_mul]; simp
  have p : 0 ≤ (40 - ((k + 1 : Nat) : Int)) * st := Int.mul_nonneg (by push_cast; omega) (by omega)
  rw [e] at p ⊢
  generalize (40 - (k : Int)) * st = q at *
  unfold c09
  omega
theorem nr_end {st d off : Int} (h : Nr st d off 40) : off = d := by unfold Nr at h; simp at h; omega
theorem c09_in {gt st d off : Int} (s : 1 ≤ st) (h1 : d - off ≤ gt) (h2 : off - d ≤ gt) : d - c09 d (off - st) (off + st) ≤ gt ∧ c09 d (off - st) (off + st) - d ≤ gt := by unfold c09; omega

set_option maxRecDepth 100000 in
set_option maxHeartbeats 8000000 in
theorem law_HydroComes (gt st u0 u1 v0 v1 : Int) (w : World) :
    Calls Try.prog 14 #[.agg #[.int .i64 gt, .int .i64 st], .agg #[.int .i64 u0, .int .i64 u1], .agg #[.int .i64 v0, .int .i64 v1]] w fun e w' => e = .returned (.bool true) ∧ Below w.heap.size w w' := by
  have hb0 : Below w.heap.size w (((w.alloc (.cells #[.int .i64 gt, .int .i64 st] 45)).alloc (.cells #[.int .i64 u0, .int .i64 u1] 45)).alloc (.cells #[.int .i64 v0, .int .i64 v1] 45)) := (by repeat (first | exact Below.refl _ _ | assumption | apply Below.drew | apply below_drewN | (refine Below.alloc ?_ (by first | exact Nat.le_refl _ | omega | (simp <;> omega)) _) | (refine Below.setCell ?_ (by first | exact Nat.le_refl _ | omega | (simp <;> omega)) _)))
  have hq0 : Held w.heap.size [.int .i64 gt, .int .i64 st] (((w.alloc (.cells #[.int .i64 gt, .int .i64 st] 45)).alloc (.cells #[.int .i64 u0, .int .i64 u1] 45)).alloc (.cells #[.int .i64 v0, .int .i64 v1] 45)) := ((Held.new w [.int .i64 gt, .int .i64 st] 45).alloc _).alloc _
  have hm0 : Held (w.heap.size + 1) [.int .i64 u0, .int .i64 u1] (((w.alloc (.cells #[.int .i64 gt, .int .i64 st] 45)).alloc (.cells #[.int .i64 u0, .int .i64 u1] 45)).alloc (.cells #[.int .i64 v0, .int .i64 v1] 45)) := by
    have := (Held.new (w.alloc (.cells #[.int .i64 gt, .int .i64 st] 45)) [.int .i64 u0, .int .i64 u1] 45).alloc (.cells #[.int .i64 v0, .int .i64 v1] 45)
    simpa using this
  have hn0 : Held (w.heap.size + 2) [.int .i64 v0, .int .i64 v1] (((w.alloc (.cells #[.int .i64 gt, .int .i64 st] 45)).alloc (.cells #[.int .i64 u0, .int .i64 u1] 45)).alloc (.cells #[.int .i64 v0, .int .i64 v1] 45)) := by
    have := Held.new ((w.alloc (.cells #[.int .i64 gt, .int .i64 st] 45)).alloc (.cells #[.int .i64 u0, .int .i64 u1] 45)) [.int .i64 v0, .int .i64 v1] 45
    simpa using this
  have hs0 : (((w.alloc (.cells #[.int .i64 gt, .int .i64 st] 45)).alloc (.cells #[.int .i64 u0, .int .i64 u1] 45)).alloc (.cells #[.int .i64 v0, .int .i64 v1] 45)).heap.size = w.heap.size + 3 := by simp
  obtain ⟨V, eV⟩ : ∃ V, V = (((w.alloc (.cells #[.int .i64 gt, .int .i64 st] 45)).alloc (.cells #[.int .i64 u0, .int .i64 u1] 45)).alloc (.cells #[.int .i64 v0, .int .i64 v1] 45)) := ⟨_, rfl⟩
  rw [← eV] at hb0 hq0 hm0 hn0 hs0
  replace eV := Lib.hid eV
  replace hs0 := Lib.hid hs0
  have LV := Lib.hid (fun u => lives19 u)
  cases hR : hyR gt st
  · have NW := Lib.hid (fun u => hnew_no gt st u hR)
    obtain ⟨p0, z0⟩ := hq0.one 0 rfl
    obtain ⟨p1, z1⟩ := hq0.one 1 rfl
    go_enter Try.func14, Try.ntmps14
    go_wp2_with fail
    rw [← eV.out]
    refine (NW.out _).mono ?_
    rintro e w' ⟨rfl, rfl⟩
    go_wp2_with fail
    refine (LV.out _).mono ?_
    rintro e w2 ⟨rfl, hb2⟩
    go_wp2
    go_ret
    exact ⟨rfl, hb0.trans (hb2.mono hb0.size)⟩
  · have ok := hyR_ok hR
    obtain ⟨o1, o2, o3, o4⟩ := hyR_ok hR
    have NW := Lib.hid (fun u => hnew_ok gt st u hR)
    clear hR
    obtain ⟨p0, z0⟩ := hq0.one 0 rfl
    obtain ⟨p1, z1⟩ := hq0.one 1 rfl
    go_enter Try.func14, Try.ntmps14
    go_wp2_with fail
    rw [← eV.out]
    refine (NW.out _).mono ?_
    rintro e w1 ⟨b, hb, rfl, k1, hb1⟩
    have hq1 := hq0.bel hb1
    have hm1 := hm0.bel hb1
    have hn1 := hn0.bel hb1
    have hbel1 := hb0.trans (hb1.mono hb0.size)
    have hbw : w.heap.size + 2 < b := by have := hs0.out; omega
    clear p0 p1 z0 z1 hq0 hm0 hn0 hb0 hb1 hb NW
    obtain ⟨p0, z0⟩ := hq1.one 0 rfl
    obtain ⟨p1, z1⟩ := hq1.one 1 rfl
    by_cases hst : st < 1000
    · go_wp2_with fail
      refine (LV.out _).mono ?_
      rintro e w2 ⟨rfl, hb2⟩
      go_wp2
      go_ret
      exact ⟨rfl, hbel1.trans (hb2.mono hbel1.size)⟩
    · skip
      obtain ⟨q0, x0⟩ := hm1.one 0 rfl
      obtain ⟨q1, x1⟩ := hm1.one 1 rfl
      have L1 := fun u hu => hlearn_any (gt := gt) (st := st) (off := 0) (kn := false) b u0 u1 u hu ok (by omega) (by omega)
      simp only [hyE_first, hyO_first] at L1
      have db := hd_bd u0 u1
      generalize hcl u0 - hcl u1 = W0 at *
      replace L1 := Lib.hid L1
      go_wp2_with fail
      refine (L1.out _ k1).mono ?_
      rintro e w2 ⟨rfl, k2, o2⟩
      have hq2 := Held.beside hq1 o2 (by omega)
      have hn2 := Held.beside hn1 o2 (by omega)
      have hbel2 := Below.beside (w := w) hbel1 o2 (by omega)
      clear p0 p1 z0 z1 q0 q1 x0 x1 k1 hq1 hm1 hn1 hbel1 o2 L1
      go_wp2_with fail
      refine (hoffset_any b _ k2).mono ?_
      rintro e w3 ⟨rfl, hb3⟩
      have k3 := k2.bel hb3
      have hq3 := hq2.bel hb3
      have hn3 := hn2.bel hb3
      have hbel3 := hbel2.trans (hb3.mono hbel2.size)
      clear k2 hq2 hn2 hbel2 hb3
      obtain ⟨p0, z0⟩ := hq3.one 0 rfl
      obtain ⟨p1, z1⟩ := hq3.one 1 rfl
      obtain ⟨q0, x0⟩ := hn3.one 0 rfl
      obtain ⟨q1, x1⟩ := hn3.one 1 rfl
      have CX := Lib.hid (fun u => rhclip_any v0 u)
      have CY := Lib.hid (fun u => rhclip_any v1 u)
      have LG := fun (off : Int) l0 l1 u hu => hlearn_any (gt := gt) (st := st) (off := off) (kn := true) b v0 v1 u hu ok l0 l1
      have HP := fun (off : Int) l0 l1 (a : Nat) (hba : b ≠ a) u hu ha => hpress_any (gt := gt) (st := st) (off := off) b a v0 u hu ha hba l0 l1
      have bX := hcl_bd v0
      have bY := hcl_bd v1
      generalize hcl v0 = X at *
      have PY := Lib.hid (fun a u (ha : AirR a u) => apress a (hcl v1) u ha)
      generalize hcl v1 = Y at *
      have w1' : IntKind.i64.wrap (X - Y) = X - Y := IntWalk.i64_in _ ⟨by omega, by omega⟩
      go_wp2_with fail
      refine region_moves (fun u => u.cell? ⟨w.heap.size + 2, 0, none⟩ = some (.int .i64 v0) ∧ u.cell? ⟨w.heap.size + 2, 1, none⟩ = some (.int .i64 v1)) [] [(.free, 0), (.take, 1), (.free, 3), (.take, 4), (.step, 2), (.step, 5), (.free, 6), (.free, 7)] _ (by kernel_rfl) (by kernel_rfl) (by kernel_rfl) (by kernel_rfl) (by decide) rfl (fun _ _ _ _ _ h => h) ?_
      simp only [List.filterMap_cons, List.filterMap_nil, List.getElem?_toArray, List.getElem?_cons_zero, List.getElem?_cons_succ, Option.map_some]
      iterate 1
        first
          | (refine mv_free ?_ (Or.inl ⟨by rfl, ?_⟩) (⟨q0, q1⟩) ?_
             rotate_left 1
             · intro u
               go_simp
               try simp only [d1]
               try simp only [d2]
               try simp only [d3]
               try with_reducible rfl
             simp only [Act.put, List.setIfInBounds_toArray, List.set_cons_zero, List.set_cons_succ])
          | (refine mv_free _ (Or.inr ⟨by rfl, rfl⟩) (⟨q0, q1⟩) ?_
             simp only [Act.put, List.setIfInBounds_toArray, List.set_cons_zero, List.set_cons_succ])
      iterate 1
        first
          | (refine mv_take ?_ (Or.inl ⟨by rfl, ?_⟩) (⟨q0, q1⟩) ?_
             rotate_left 1
             · intro u hu
               (try dsimp only at hu)
               go_simp
               try with_reducible rfl
             simp only [Act.put, List.setIfInBounds_toArray, List.set_cons_zero, List.set_cons_succ])
          | (refine mv_take _ (Or.inr ⟨by rfl, rfl⟩) (⟨q0, q1⟩) ?_
             simp only [Act.put, List.setIfInBounds_toArray, List.set_cons_zero, List.set_cons_succ])
      iterate 1
        first
          | (refine mv_free ?_ (Or.inl ⟨by rfl, ?_⟩) (⟨q0, q1⟩) ?_
             rotate_left 1
             · intro u
               go_simp
               try simp only [d1]
               try simp only [d2]
               try simp only [d3]
               try with_reducible rfl
             simp only [Act.put, List.setIfInBounds_toArray, List.set_cons_zero, List.set_cons_succ])
          | (refine mv_free _ (Or.inr ⟨by rfl, rfl⟩) (⟨q0, q1⟩) ?_
             simp only [Act.put, List.setIfInBounds_toArray, List.set_cons_zero, List.set_cons_succ])
      iterate 1
        first
          | (refine mv_take ?_ (Or.inl ⟨by rfl, ?_⟩) (⟨q0, q1⟩) ?_
             rotate_left 1
             · intro u hu
               (try dsimp only at hu)
               go_simp
               try with_reducible rfl
             simp only [Act.put, List.setIfInBounds_toArray, List.set_cons_zero, List.set_cons_succ])
          | (refine mv_take _ (Or.inr ⟨by rfl, rfl⟩) (⟨q0, q1⟩) ?_
             simp only [Act.put, List.setIfInBounds_toArray, List.set_cons_zero, List.set_cons_succ])
      refine mv_step (fun K hK => ?_)
      go_simp
      refine (CX.out _).mono ?_
      rintro e w' ⟨rfl, rfl⟩
      go_wp2_with fail
      refine hK.out _ _ _ (fun u hu => hu) (⟨q0, q1⟩) ?_
      clear hK K
      refine mv_step (fun K hK => ?_)
      go_simp
      refine (CY.out _).mono ?_
      rintro e w' ⟨rfl, rfl⟩
      go_wp2_with fail
      refine hK.out _ _ _ (fun u hu => hu) (⟨q0, q1⟩) ?_
      clear hK K
      iterate 2
        first
          | (refine mv_free ?_ (Or.inl ⟨by rfl, ?_⟩) (⟨q0, q1⟩) ?_
             rotate_left 1
             · intro u
               go_simp
               try simp only [d1]
               try simp only [d2]
               try simp only [d3]
               try with_reducible rfl
             simp only [Act.put, List.setIfInBounds_toArray, List.set_cons_zero, List.set_cons_succ])
          | (refine mv_free _ (Or.inr ⟨by rfl, rfl⟩) (⟨q0, q1⟩) ?_
             simp only [Act.put, List.setIfInBounds_toArray, List.set_cons_zero, List.set_cons_succ])
      refine mv_done ?_
      have k4 := k3.drew
      have hq4 := hq3.drew
      have hn4 := hn3.drew
      have hbel4 := hbel3.drew
      clear p0 p1 z0 z1 q0 q1 x0 x1 k3 hq3 hn3 hbel3
      generalize w3.drew = w4 at *
      by_cases hf : gt < (X - Y) - W0 ∨ gt < W0 - (X - Y) ∨ 40 * st < (X - Y) - W0 ∨ 40 * st < W0 - (X - Y)
      · skip
        obtain ⟨p0, z0⟩ := hq4.one 0 rfl
        obtain ⟨p1, z1⟩ := hq4.one 1 rfl
        go_wp2_with fail
        all_goals first | (exfalso; omega) | skip
        all_goals
          refine (LV.out _).mono ?_
          rintro e w5 ⟨rfl, hb5⟩
          go_wp2
          go_ret
          exact ⟨rfl, hbel4.trans (hb5.mono hbel4.size)⟩
      · have n0 : Nr st (X - Y) W0 0 := nr_start (by omega)
        have HS := Lib.hid (fun (off : Int) (k : Nat) (h : Nr st (X - Y) off k) (hk : k < 40) => nr_step o3 h hk)
        have HI := Lib.hid (fun (off : Int) h1 h2 => c09_in (gt := gt) (st := st) (d := X - Y) (off := off) o3 h1 h2)
        replace n0 := Lib.hid n0
        replace LG := Lib.hid LG
        replace HP := Lib.hid HP
        have d1 : (X - Y) - W0 ≤ gt := by omega
        have d2 : W0 - (X - Y) ≤ gt := by omega
        have d3 : (X - Y) - W0 ≤ 40 * st := by omega
        have d4 : W0 - (X - Y) ≤ 40 * st := by omega
        have z5 : IntKind.i64.wrap (X - Y - W0) = X - Y - W0 := IntWalk.i64_in _ ⟨by omega, by omega⟩
        have z6 : IntKind.i64.wrap (W0 - (X - Y)) = W0 - (X - Y) := IntWalk.i64_in _ ⟨by omega, by omega⟩
        have hD : -200000000 ≤ X - Y ∧ X - Y ≤ 200000000 := by omega
        obtain ⟨hD1, hD2⟩ := hD
        have hY : X - (X - Y) = Y := by omega
        replace hY := Lib.hid hY
        clear hf
        obtain ⟨p0, z0⟩ := hq4.one 0 rfl
        obtain ⟨p1, z1⟩ := hq4.one 1 rfl
        go_wp2_with fail
        all_goals first | (exfalso; omega) | skip
        clear p0 p1 z0 z1 z5 z6 d3 d4
        go_loopw [12] (fun i v => ∃ (k : Nat) (off : Int), k ≤ 40 ∧ i = .int .i64 k ∧ -200000000 ≤ off ∧ off ≤ 200000000 ∧ (X - Y) - off ≤ gt ∧ off - (X - Y) ≤ gt ∧ Hid (Nr st (X - Y) off k) ∧ Held b (hyC gt st off true) v ∧ Held (w.heap.size + 2) [.int .i64 v0, .int .i64 v1] v ∧ Below w.heap.size w v) (fun i _ => 40 - (intOf i).toNat)
        case atStart => exact ⟨0, W0, by omega, rfl, db.1, db.2, d1, d2, n0, k4, hn4, hbel4⟩
        case round =>
          clear k4 hq4 hn4 hbel4 d1 d2 n0
          obtain ⟨k, off, hk, rfl, l0, l1, d1, d2, n0, kk, hn, hbel⟩ := hrel
          obtain ⟨q0, x0⟩ := hn.one 0 rfl
          obtain ⟨q1, x1⟩ := hn.one 1 rfl
          by_cases hlt : k < 40
          · have LG := LG.out off l0 l1
            rw [hyE_near (by omega), hyO_near (by omega)] at LG
            have n1 := Lib.hid (HS.out off k n0.out hlt)
            obtain ⟨e1, e2⟩ := HI.out off d1 d2
            have b1 : -200000000 ≤ c09 (X - Y) (off - st) (off + st) ∧ c09 (X - Y) (off - st) (off + st) ≤ 200000000 := by unfold c09; omega
            generalize c09 (X - Y) (off - st) (off + st) = O at *
            replace LG := Lib.hid LG
            clear n0 HS HI
            go_wp2_with fail
            refine (LG.out _ kk).mono ?_
            rintro e w5 ⟨rfl, k5, o5⟩
            have hn5 := Held.beside hn o5 (by omega)
            have hbel5 := Below.beside (w := w) hbel o5 (by omega)
            clear q0 q1 x0 x1 kk hn hbel o5
            go_wp2
            go_roundw
            case rel => exact ⟨k + 1, O, by omega, by go_num, b1.1, b1.2, e1, e2, n1, k5, hn5, hbel5⟩
            case measure => simp [intOf]; omega
          · obtain rfl : k = 40 := by omega
            obtain rfl : off = X - Y := nr_end n0.out
            have HP := HP.out (X - Y) hD1 hD2
            rw [hY.out] at HP
            replace HP := Lib.hid HP
            clear n0 HS HI LG hY
            go_wp2_with fail
            refine (hoffset_any b _ kk).mono ?_
            rintro e w5 ⟨rfl, hb5⟩
            have k5 := kk.bel hb5
            have hn5 := hn.bel hb5
            have hbel5 := hbel.trans (hb5.mono hbel.size)
            clear q0 q1 x0 x1 kk hn hbel hb5
            obtain ⟨Z, hz, HN⟩ := air_new
            have ha1 := (HN w5).1
            have ha2 := (HN w5).2.1
            obtain ⟨V5, eV5⟩ : ∃ V5, V5 = w5.alloc (.cells Z 38) := ⟨_, rfl⟩
            rw [← eV5] at ha1 ha2
            replace eV5 := Lib.hid eV5
            obtain ⟨ba, eba⟩ : ∃ ba, w5.heap.size = ba := ⟨_, rfl⟩
            have hba : b ≠ ba := by have := k5.lt; omega
            have hna : w.heap.size + 2 < ba := by have := hn5.lt; omega
            have k6 := k5.bel ha2
            have hn6 := hn5.bel ha2
            have hb6 := hbel5.trans (ha2.mono hbel5.size)
            rw [eba] at ha1
            replace eba := Lib.hid eba
            clear HN ha2 k5 hn5 hbel5
            obtain ⟨q0, x0⟩ := hn6.one 0 rfl
            obtain ⟨q1, x1⟩ := hn6.one 1 rfl
            go_upto_region 16 with (fail)
            rw [← eV5.out, eba.out]
            go_wp2_with fail
            refine (HP.out ba hba _ k6 (.inl ⟨_, ha1⟩)).mono ?_
            rintro e w7 ⟨rfl, a7, o7⟩
            have hn7 := Held.beside hn6 o7 (by omega)
            have hb7 := Below.beside (w := w) hb6 o7 (by omega)
            replace a7 := Lib.hid a7
            clear q0 q1 x0 x1 k6 hn6 hb6 ha1 o7 HP
            obtain ⟨q0, x0⟩ := hn7.one 0 rfl
            obtain ⟨q1, x1⟩ := hn7.one 1 rfl
            go_wp2_with fail
            refine (CY.out _).mono ?_
            rintro e w' ⟨rfl, rfl⟩
            go_wp2_with fail
            refine (PY.out ba _ (.inr a7.out)).mono ?_
            rintro e w8 ⟨rfl, a8, o8⟩
            have hb8 := Below.beside (w := w) hb7 o8 (by omega)
            clear q0 q1 x0 x1 hn7 hb7 a7 a8 o8 PY
            go_wp2_with fail
            refine (LV.out _).mono ?_
            rintro e w9 ⟨rfl, hb9⟩
            go_wp2
            go_ret
            exact ⟨rfl, hb8.trans (hb9.mono hb8.size)⟩
end Go.Proofs.Ytlgiefdhjhijaaa
