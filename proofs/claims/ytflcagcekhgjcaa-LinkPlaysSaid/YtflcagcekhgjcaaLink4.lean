/- Step of a frame's bytes; the laws LinkNew and LinkOrder; walked. -/
import Derived.Test.YtflcagcekhgjcaaLink3
import Derived.Deep.Cut
namespace Go.Proofs.Ytflcagcekhgjcaa
open Go.ChangeShapes Go.WideShapes Go.ChangeAt Go.RowKit
set_option linter.unusedVariables false
set_option linter.unusedSimpArgs false
set_option maxRecDepth 100000 in
set_option maxHeartbeats 8000000 in
theorem lkp_new {i pa i0 s0 v0 t0 ag ta re q v t : Int} (b g c : Nat) (w : World) (h : Held b (lkC i pa i0 s0 v0 t0 false ag ta re) w) (ha : 0 ≤ ag ∧ ag ≤ 1000000) (hr0 : 0 ≤ ta ∧ ta < 9223372036854775807) (hf : frB i q v t = true) (hr : RowIs .u8 w (some ⟨g, 0, none⟩) (puL i q v t)) (hg : g ≠ b) : Calls Try.prog 27 #[.pointer (some ⟨b, 0, none⟩), .slice (some ⟨g, 0, none⟩) 8 c] w fun e w' => e = .returned (.tuple #[.agg #[.int .i64 i, .int .i64 q, .int .i64 v, .int .i64 t], .int .i64 0]) ∧ Held b (lkC i pa i q v t true 0 (ta + 1) re) w' ∧ Beside b w w' := by
  obtain ⟨t1, t2, t3, t4⟩ := puL_back hf
  have hne : ∀ x : Addr, some (⟨g, 0, none⟩ : Addr) = some x → x.block ≠ b := fun x hx => by injection hx with hx; subst hx; exact hg
  have := lkstep_fine b w h ha hr0 (puL i q v t) (some ⟨g, 0, none⟩) c hr hne (by show 0 < 8; omega) (by show 8 ≤ maxLen; decide) (fun u hu hru => lkrcv_new b (puL i q v t) u hu (some ⟨g, 0, none⟩) c hru (by show 8 ≤ maxLen; decide) (puL_byt hf) (puL_ok i q v t) t1 rfl)
  rw [t1, t2, t3, t4] at this
  exact this
set_option maxRecDepth 100000 in
set_option maxHeartbeats 8000000 in
theorem lkp_ok {i pa i0 s0 v0 t0 ag ta re q v t : Int} (b g c : Nat) (w : World) (h : Held b (lkC i pa i0 s0 v0 t0 true ag ta re) w) (ha : 0 ≤ ag ∧ ag ≤ 1000000) (hr0 : 0 ≤ ta ∧ ta < 9223372036854775807) (hf : frB i q v t = true) (hr : RowIs .u8 w (some ⟨g, 0, none⟩) (puL i q v t)) (hg : g ≠ b) (hs : 0 ≤ s0 ∧ s0 ≤ 255) (hq : q = (s0 + 1) % 256) : Calls Try.prog 27 #[.pointer (some ⟨b, 0, none⟩), .slice (some ⟨g, 0, none⟩) 8 c] w fun e w' => e = .returned (.tuple #[.agg #[.int .i64 i, .int .i64 q, .int .i64 v, .int .i64 t], .int .i64 0]) ∧ Held b (lkC i pa i q v t true 0 (ta + 1) re) w' ∧ Beside b w w' := by
  obtain ⟨t1, t2, t3, t4⟩ := puL_back hf
  have hne : ∀ x : Addr, some (⟨g, 0, none⟩ : Addr) = some x → x.block ≠ b := fun x hx => by injection hx with hx; subst hx; exact hg
  have := lkstep_fine b w h ha hr0 (puL i q v t) (some ⟨g, 0, none⟩) c hr hne (by show 0 < 8; omega) (by show 8 ≤ maxLen; decide) (fun u hu hru => lkrcv_ok b (puL i q v t) u hu (some ⟨g, 0, none⟩) c hru (by show 8 ≤ maxLen; decide) (puL_byt hf) (puL_ok i q v t) t1 rfl (by rw [t2]; exact hq) hs)
  rw [t1, t2, t3, t4] at this
  exact this
set_option maxRecDepth 100000 in
set_option maxHeartbeats 8000000 in
theorem lkp_order {i pa i0 s0 v0 t0 ag ta re q v t : Int} (b g c : Nat) (w : World) (h : Held b (lkC i pa i0 s0 v0 t0 true ag ta re) w) (ha : 0 ≤ ag ∧ ag ≤ 1000000) (hr0 : 0 ≤ re ∧ re < 9223372036854775807) (hf : frB i q v t = true) (hr : RowIs .u8 w (some ⟨g, 0, none⟩) (puL i q v t)) (hg : g ≠ b) (hs : 0 ≤ s0 ∧ s0 ≤ 255) (hq : q ≠ (s0 + 1) % 256) : Calls Try.prog 27 #[.pointer (some ⟨b, 0, none⟩), .slice (some ⟨g, 0, none⟩) 8 c] w fun e w' => e = .returned (.tuple #[.agg #[.int .i64 0, .int .i64 0, .int .i64 0, .int .i64 0], .int .i64 5]) ∧ Held b (lkC i pa i q v t true (agN ag) ta (re + 1)) w' ∧ Beside b w w' := by
  obtain ⟨t1, t2, t3, t4⟩ := puL_back hf
  have hne : ∀ x : Addr, some (⟨g, 0, none⟩ : Addr) = some x → x.block ≠ b := fun x hx => by injection hx with hx; subst hx; exact hg
  have := lkstep_err b w h ha hr0 (by omega) (puL i q v t) (some ⟨g, 0, none⟩) c hr hne (by show 0 < 8; omega) (by show 8 ≤ maxLen; decide) (fun u hu hru => lkrcv_order b (puL i q v t) u hu (some ⟨g, 0, none⟩) c hru (by show 8 ≤ maxLen; decide) (puL_byt hf) (puL_ok i q v t) t1 rfl (by rw [t2]; exact hq) hs)
  rw [t1, t2, t3, t4] at this
  exact this
set_option maxRecDepth 100000 in
set_option maxHeartbeats 8000000 in
theorem lkstep_nil (a : Option Addr) (n cap : Nat) (w : World) : Calls Try.prog 27 #[.pointer none, .slice a n cap] w fun e w' => e = .returned (.tuple #[.agg #[.int .i64 0, .int .i64 0, .int .i64 0, .int .i64 0], .int .i64 1]) ∧ Below w.heap.size w w' := by
  go_enter Try.func27, Try.ntmps27
  go_wp2
  exact bodyPost_ret (v := .tuple #[.agg #[.int .i64 0, .int .i64 0, .int .i64 0, .int .i64 0], .int .i64 1]) (by simp [results, Try.results27, go_sem]) rfl ⟨rfl, (by repeat (first | exact Below.refl _ _ | assumption | apply Below.drew | apply below_drewN | (refine Below.alloc ?_ (by first | exact Nat.le_refl _ | omega | (simp <;> omega)) _) | (refine Below.setCell ?_ (by first | exact Nat.le_refl _ | omega | (simp <;> omega)) _)))⟩
set_option maxRecDepth 100000 in
set_option maxHeartbeats 8000000 in
theorem lklast_nil (w : World) : Calls Try.prog 28 #[.pointer none] w fun e w' => e = .returned (.tuple #[.agg #[.int .i64 0, .int .i64 0, .int .i64 0, .int .i64 0], .bool false]) ∧ Below w.heap.size w w' := by
  go_enter Try.func28, Try.ntmps28
  go_wp2
  exact bodyPost_ret (v := .tuple #[.agg #[.int .i64 0, .int .i64 0, .int .i64 0, .int .i64 0], .bool false]) (by simp [results, Try.results28, go_sem]) rfl ⟨rfl, (by repeat (first | exact Below.refl _ _ | assumption | apply Below.drew | apply below_drewN | (refine Below.alloc ?_ (by first | exact Nat.le_refl _ | omega | (simp <;> omega)) _) | (refine Below.setCell ?_ (by first | exact Nat.le_refl _ | omega | (simp <;> omega)) _)))⟩
set_option maxRecDepth 100000 in
set_option maxHeartbeats 8000000 in
theorem law_LinkNew (id pa : Int) (a : Option Addr) (n cap : Nat) (w : World) : Calls Try.prog 7 #[.int .i64 id, .int .i64 pa, .slice a n cap] w fun e w' => e = .returned (.bool true) ∧ Below w.heap.size w w' := by
  have LV := Lib.hid (fun u => lives13 u)
  have SN := Lib.hid (fun u => lkstep_nil a n cap u)
  have LN := Lib.hid (fun u => lklast_nil u)
  have CN := Lib.hid (fun u => lkcounts_nil u)
  have RN := Lib.hid (fun u => lkreset_nil u)
  have AN := Lib.hid (fun u => lkage_nil u)
  have TN := Lib.hid (fun u => lkstale_nil u)
  rcases (show id < 0 ∨ (0 ≤ id ∧ 255 < id) ∨ (0 ≤ id ∧ id ≤ 255 ∧ pa < 0) ∨ (0 ≤ id ∧ id ≤ 255 ∧ 0 ≤ pa ∧ 1000 < pa) ∨ (0 ≤ id ∧ id ≤ 255 ∧ 0 ≤ pa ∧ pa ≤ 1000) by omega) with g | ⟨g, g2⟩ | ⟨g, g2, g3⟩ | ⟨g, g2, g3, g4⟩ | ⟨g, g2, g3, g4⟩
  · have NW := Lib.hid (fun u => lknew_no id pa u (by omega))
    go_enter Try.func7, Try.ntmps7
    go_wp2_with fail
    refine (NW.out _).mono ?_
    rintro e w1 ⟨rfl, rfl⟩
    have hb1 := Below.refl w.heap.size w
    go_wp2_with fail
    refine (SN.out _).mono ?_
    rintro e w2 ⟨rfl, hb2'⟩
    have hb2 := hb1.trans (hb2'.mono hb1.size)
    go_upto_region 4 with (fail)
    obtain ⟨V2, eV2, hm2, hF2, hz2⟩ := f4_alloc w2 0 0 0 0
    rw [← eV2]
    replace eV2 := Lib.hid eV2
    have hb3 := hb2.trans (hm2.mono hb2.size)
    clear hb1 hb2 hb2' hm2 hz2
    replace hF2 := Lib.hid hF2
    go_wp2_with fail
    refine (LN.out _).mono ?_
    rintro e w4 ⟨rfl, hb4'⟩
    replace hF2 := Lib.hid (hF2.out.keep hb4')
    have hb4 := hb3.trans (hb4'.mono hb3.size)
    go_upto_region 5 with (fail)
    obtain ⟨V5, eV5, hm5, hF5, hz5⟩ := f4_alloc w4 0 0 0 0
    rw [← eV5]
    replace eV5 := Lib.hid eV5
    have hb5 := hb4.trans (hm5.mono hb4.size)
    have hF3 := hF2.out.keep hm5
    clear hb3 hb4 hb4' hm5 hz5 hF2
    obtain ⟨j0, j1, j2, j3, -, -, -, -, -⟩ := hF3
    obtain ⟨i0, i1, i2, i3, -, -, -, -, -⟩ := hF5
    replace hb5 := Lib.hid hb5
    go_wp2_with fail
    refine (CN.out _).mono ?_
    rintro e w6 ⟨rfl, rfl⟩
    go_wp2_with fail
    refine (RN.out _).mono ?_
    rintro e w6 ⟨rfl, rfl⟩
    go_wp2_with fail
    refine (AN.out _).mono ?_
    rintro e w6 ⟨rfl, rfl⟩
    go_wp2_with fail
    refine (TN.out _).mono ?_
    rintro e w6 ⟨rfl, rfl⟩
    go_wp2_with fail
    refine (LV.out _).mono ?_
    rintro e w20 ⟨rfl, hb20⟩
    have hb21 := Lib.hid (hb5.out.drew.trans (hb20.mono hb5.out.size))
    clear hb20
    go_wp2
    go_ret
    exact ⟨rfl, hb21.out⟩
  · have NW := Lib.hid (fun u => lknew_no id pa u (by omega))
    go_enter Try.func7, Try.ntmps7
    go_wp2_with fail
    refine (NW.out _).mono ?_
    rintro e w1 ⟨rfl, rfl⟩
    have hb1 := Below.refl w.heap.size w
    go_wp2_with fail
    refine (SN.out _).mono ?_
    rintro e w2 ⟨rfl, hb2'⟩
    have hb2 := hb1.trans (hb2'.mono hb1.size)
    go_upto_region 4 with (fail)
    obtain ⟨V2, eV2, hm2, hF2, hz2⟩ := f4_alloc w2 0 0 0 0
    rw [← eV2]
    replace eV2 := Lib.hid eV2
    have hb3 := hb2.trans (hm2.mono hb2.size)
    clear hb1 hb2 hb2' hm2 hz2
    replace hF2 := Lib.hid hF2
    go_wp2_with fail
    refine (LN.out _).mono ?_
    rintro e w4 ⟨rfl, hb4'⟩
    replace hF2 := Lib.hid (hF2.out.keep hb4')
    have hb4 := hb3.trans (hb4'.mono hb3.size)
    go_upto_region 5 with (fail)
    obtain ⟨V5, eV5, hm5, hF5, hz5⟩ := f4_alloc w4 0 0 0 0
    rw [← eV5]
    replace eV5 := Lib.hid eV5
    have hb5 := hb4.trans (hm5.mono hb4.size)
    have hF3 := hF2.out.keep hm5
    clear hb3 hb4 hb4' hm5 hz5 hF2
    obtain ⟨j0, j1, j2, j3, -, -, -, -, -⟩ := hF3
    obtain ⟨i0, i1, i2, i3, -, -, -, -, -⟩ := hF5
    replace hb5 := Lib.hid hb5
    go_wp2_with fail
    refine (CN.out _).mono ?_
    rintro e w6 ⟨rfl, rfl⟩
    go_wp2_with fail
    refine (RN.out _).mono ?_
    rintro e w6 ⟨rfl, rfl⟩
    go_wp2_with fail
    refine (AN.out _).mono ?_
    rintro e w6 ⟨rfl, rfl⟩
    go_wp2_with fail
    refine (TN.out _).mono ?_
    rintro e w6 ⟨rfl, rfl⟩
    go_wp2_with fail
    refine (LV.out _).mono ?_
    rintro e w20 ⟨rfl, hb20⟩
    have hb21 := Lib.hid (hb5.out.drew.trans (hb20.mono hb5.out.size))
    clear hb20
    go_wp2
    go_ret
    exact ⟨rfl, hb21.out⟩
  · have NW := Lib.hid (fun u => lknew_no id pa u (by omega))
    go_enter Try.func7, Try.ntmps7
    go_wp2_with fail
    refine (NW.out _).mono ?_
    rintro e w1 ⟨rfl, rfl⟩
    have hb1 := Below.refl w.heap.size w
    go_wp2_with fail
    refine (SN.out _).mono ?_
    rintro e w2 ⟨rfl, hb2'⟩
    have hb2 := hb1.trans (hb2'.mono hb1.size)
    go_upto_region 4 with (fail)
    obtain ⟨V2, eV2, hm2, hF2, hz2⟩ := f4_alloc w2 0 0 0 0
    rw [← eV2]
    replace eV2 := Lib.hid eV2
    have hb3 := hb2.trans (hm2.mono hb2.size)
    clear hb1 hb2 hb2' hm2 hz2
    replace hF2 := Lib.hid hF2
    go_wp2_with fail
    refine (LN.out _).mono ?_
    rintro e w4 ⟨rfl, hb4'⟩
    replace hF2 := Lib.hid (hF2.out.keep hb4')
    have hb4 := hb3.trans (hb4'.mono hb3.size)
    go_upto_region 5 with (fail)
    obtain ⟨V5, eV5, hm5, hF5, hz5⟩ := f4_alloc w4 0 0 0 0
    rw [← eV5]
    replace eV5 := Lib.hid eV5
    have hb5 := hb4.trans (hm5.mono hb4.size)
    have hF3 := hF2.out.keep hm5
    clear hb3 hb4 hb4' hm5 hz5 hF2
    obtain ⟨j0, j1, j2, j3, -, -, -, -, -⟩ := hF3
    obtain ⟨i0, i1, i2, i3, -, -, -, -, -⟩ := hF5
    replace hb5 := Lib.hid hb5
    go_wp2_with fail
    refine (CN.out _).mono ?_
    rintro e w6 ⟨rfl, rfl⟩
    go_wp2_with fail
    refine (RN.out _).mono ?_
    rintro e w6 ⟨rfl, rfl⟩
    go_wp2_with fail
    refine (AN.out _).mono ?_
    rintro e w6 ⟨rfl, rfl⟩
    go_wp2_with fail
    refine (TN.out _).mono ?_
    rintro e w6 ⟨rfl, rfl⟩
    go_wp2_with fail
    refine (LV.out _).mono ?_
    rintro e w20 ⟨rfl, hb20⟩
    have hb21 := Lib.hid (hb5.out.drew.trans (hb20.mono hb5.out.size))
    clear hb20
    go_wp2
    go_ret
    exact ⟨rfl, hb21.out⟩
  · have NW := Lib.hid (fun u => lknew_no id pa u (by omega))
    go_enter Try.func7, Try.ntmps7
    go_wp2_with fail
    refine (NW.out _).mono ?_
    rintro e w1 ⟨rfl, rfl⟩
    have hb1 := Below.refl w.heap.size w
    go_wp2_with fail
    refine (SN.out _).mono ?_
    rintro e w2 ⟨rfl, hb2'⟩
    have hb2 := hb1.trans (hb2'.mono hb1.size)
    go_upto_region 4 with (fail)
    obtain ⟨V2, eV2, hm2, hF2, hz2⟩ := f4_alloc w2 0 0 0 0
    rw [← eV2]
    replace eV2 := Lib.hid eV2
    have hb3 := hb2.trans (hm2.mono hb2.size)
    clear hb1 hb2 hb2' hm2 hz2
    replace hF2 := Lib.hid hF2
    go_wp2_with fail
    refine (LN.out _).mono ?_
    rintro e w4 ⟨rfl, hb4'⟩
    replace hF2 := Lib.hid (hF2.out.keep hb4')
    have hb4 := hb3.trans (hb4'.mono hb3.size)
    go_upto_region 5 with (fail)
    obtain ⟨V5, eV5, hm5, hF5, hz5⟩ := f4_alloc w4 0 0 0 0
    rw [← eV5]
    replace eV5 := Lib.hid eV5
    have hb5 := hb4.trans (hm5.mono hb4.size)
    have hF3 := hF2.out.keep hm5
    clear hb3 hb4 hb4' hm5 hz5 hF2
    obtain ⟨j0, j1, j2, j3, -, -, -, -, -⟩ := hF3
    obtain ⟨i0, i1, i2, i3, -, -, -, -, -⟩ := hF5
    replace hb5 := Lib.hid hb5
    go_wp2_with fail
    refine (CN.out _).mono ?_
    rintro e w6 ⟨rfl, rfl⟩
    go_wp2_with fail
    refine (RN.out _).mono ?_
    rintro e w6 ⟨rfl, rfl⟩
    go_wp2_with fail
    refine (AN.out _).mono ?_
    rintro e w6 ⟨rfl, rfl⟩
    go_wp2_with fail
    refine (TN.out _).mono ?_
    rintro e w6 ⟨rfl, rfl⟩
    go_wp2_with fail
    refine (LV.out _).mono ?_
    rintro e w20 ⟨rfl, hb20⟩
    have hb21 := Lib.hid (hb5.out.drew.trans (hb20.mono hb5.out.size))
    clear hb20
    go_wp2
    go_ret
    exact ⟨rfl, hb21.out⟩
  · have NW := Lib.hid (fun u => lknew_ok id pa u ⟨g, g2, g3, g4⟩)
    have AG := Lib.hid (fun (b : Nat) u (h : Held b (lkC id pa 0 0 0 0 false 0 0 0) u) => lkage b u h)
    have SL := fun (b : Nat) u (h : Held b (lkC id pa 0 0 0 0 false 0 0 0) u) => lkstale b u h
    rw [show decide (pa < 0) = false from by simp; omega] at SL
    replace SL := Lib.hid SL
    go_enter Try.func7, Try.ntmps7
    go_wp2_with fail
    refine (NW.out _).mono ?_
    rintro e w1 ⟨b, hb, rfl, h1, hb1⟩
    go_wp2_with fail
    refine (SN.out _).mono ?_
    rintro e w2 ⟨rfl, hb2'⟩
    have hb2 := hb1.trans (hb2'.mono hb1.size)
    replace h1 := h1.bel hb2'
    go_upto_region 4 with (fail)
    obtain ⟨V2, eV2, hm2, hF2, hz2⟩ := f4_alloc w2 0 0 0 0
    rw [← eV2]
    replace eV2 := Lib.hid eV2
    have hb3 := hb2.trans (hm2.mono hb2.size)
    replace h1 := Lib.hid (h1.bel hm2)
    clear hb1 hb2 hb2' hm2 hz2
    replace hF2 := Lib.hid hF2
    go_wp2_with fail
    refine (LN.out _).mono ?_
    rintro e w4 ⟨rfl, hb4'⟩
    replace hF2 := Lib.hid (hF2.out.keep hb4')
    have hb4 := hb3.trans (hb4'.mono hb3.size)
    replace h1 := Lib.hid (h1.out.bel hb4')
    go_upto_region 5 with (fail)
    obtain ⟨V5, eV5, hm5, hF5, hz5⟩ := f4_alloc w4 0 0 0 0
    rw [← eV5]
    replace eV5 := Lib.hid eV5
    have hb5 := hb4.trans (hm5.mono hb4.size)
    have hF3 := hF2.out.keep hm5
    have h5 := Lib.hid (h1.out.bel hm5)
    clear h1
    clear hb3 hb4 hb4' hm5 hz5 hF2
    obtain ⟨j0, j1, j2, j3, -, -, -, -, -⟩ := hF3
    obtain ⟨i0, i1, i2, i3, -, -, -, -, -⟩ := hF5
    replace hb5 := Lib.hid hb5
    go_wp2_with fail
    refine (CN.out _).mono ?_
    rintro e w6 ⟨rfl, rfl⟩
    go_wp2_with fail
    refine (RN.out _).mono ?_
    rintro e w6 ⟨rfl, rfl⟩
    go_wp2_with fail
    refine (AN.out _).mono ?_
    rintro e w6 ⟨rfl, rfl⟩
    go_wp2_with fail
    refine (TN.out _).mono ?_
    rintro e w6 ⟨rfl, rfl⟩
    have h6 := h5.out.drew
    go_wp2_with fail
    refine (AG.out _ _ h6).mono ?_
    rintro e w7 ⟨rfl, rfl⟩
    go_wp2_with fail
    refine (SL.out _ _ h6).mono ?_
    rintro e w7 ⟨rfl, rfl⟩
    go_wp2_with fail
    refine (LV.out _).mono ?_
    rintro e w20 ⟨rfl, hb20⟩
    have hb21 := Lib.hid (hb5.out.drew.drew.trans (hb20.mono hb5.out.size))
    clear hb20
    go_wp2
    go_ret
    exact ⟨rfl, hb21.out⟩
end Go.Proofs.Ytflcagcekhgjcaa
