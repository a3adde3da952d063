/- The law LinkStale; walked. -/
import Derived.Test.YtflcagcekhgjcaaLink5
import Derived.Deep.Cut
namespace Go.Proofs.Ytflcagcekhgjcaa
open Go.ChangeShapes Go.WideShapes Go.ChangeAt Go.RowKit
set_option linter.unusedVariables false
set_option linter.unusedSimpArgs false
set_option maxRecDepth 100000 in
set_option maxHeartbeats 8000000 in
theorem law_LinkStale (i s v t pa sk : Int) (w : World) : Calls Try.prog 10 #[.agg #[.int .i64 i, .int .i64 s, .int .i64 v, .int .i64 t], .int .i64 pa, .int .i64 sk] w fun e w' => e = .returned (.bool true) ∧ Below w.heap.size w w' := by
  obtain ⟨V, eV, hb0, hz, hcs⟩ := lo_box w i s v t
  have LV := Lib.hid (fun u => lives13 u)
  have RF := fun u => rfright i s v t u
  cases hf : frB i s v t
  · rw [hf] at RF
    replace RF := Lib.hid RF
    clear hf
    replace hb0 := Lib.hid hb0
    replace hz := Lib.hid hz
    replace hcs := Lib.hid hcs
    replace eV := Lib.hid eV
    go_enter Try.func10, Try.ntmps10
    go_wp2_with fail
    rw [← eV.out]
    obtain ⟨k0, k1, k2, k3⟩ := hcs.out _ (Below.refl _ _)
    go_wp2_with fail
    refine (RF.out _).mono ?_
    rintro e w1 ⟨rfl, hb1⟩
    have hb1 := (Below.refl (w.heap.size + 1) V).trans (hb1.mono (Nat.le_of_eq hz.out.symm))
    obtain ⟨k0, k1, k2, k3⟩ := hcs.out _ hb1
    go_wp2_with fail
    refine (LV.out _).mono ?_
    rintro e w20 ⟨rfl, hb20⟩
    have hb20 := hb1.trans (hb20.mono (by have := hb1.size; have := hz.out; omega))
    go_wp2
    go_ret
    exact ⟨rfl, hb0.out.trans (hb20.mono (by omega))⟩
  rw [hf] at RF
  replace RF := Lib.hid RF
  rcases (show pa < 0 ∨ (0 ≤ pa ∧ 300 < pa) ∨ (0 ≤ pa ∧ pa ≤ 300 ∧ sk < 2) ∨ (0 ≤ pa ∧ pa ≤ 300 ∧ 2 ≤ sk ∧ 255 < sk) ∨ (0 ≤ pa ∧ pa ≤ 300 ∧ 2 ≤ sk ∧ sk ≤ 255) by omega) with h | ⟨h, h2⟩ | ⟨h, h2, h3⟩ | ⟨h, h2, h3, h4⟩ | ⟨h, h2, h3, h4⟩
  · clear hf
    replace hb0 := Lib.hid hb0
    replace hz := Lib.hid hz
    replace hcs := Lib.hid hcs
    replace eV := Lib.hid eV
    go_enter Try.func10, Try.ntmps10
    go_wp2_with fail
    rw [← eV.out]
    obtain ⟨k0, k1, k2, k3⟩ := hcs.out _ (Below.refl _ _)
    go_wp2_with fail
    refine (RF.out _).mono ?_
    rintro e w1 ⟨rfl, hb1⟩
    have hb1 := (Below.refl (w.heap.size + 1) V).trans (hb1.mono (Nat.le_of_eq hz.out.symm))
    obtain ⟨k0, k1, k2, k3⟩ := hcs.out _ hb1
    go_wp2_with fail
    refine (LV.out _).mono ?_
    rintro e w20 ⟨rfl, hb20⟩
    have hb20 := hb1.trans (hb20.mono (by have := hb1.size; have := hz.out; omega))
    go_wp2
    go_ret
    exact ⟨rfl, hb0.out.trans (hb20.mono (by omega))⟩
  · clear hf
    replace hb0 := Lib.hid hb0
    replace hz := Lib.hid hz
    replace hcs := Lib.hid hcs
    replace eV := Lib.hid eV
    go_enter Try.func10, Try.ntmps10
    go_wp2_with fail
    rw [← eV.out]
    obtain ⟨k0, k1, k2, k3⟩ := hcs.out _ (Below.refl _ _)
    go_wp2_with fail
    refine (RF.out _).mono ?_
    rintro e w1 ⟨rfl, hb1⟩
    have hb1 := (Below.refl (w.heap.size + 1) V).trans (hb1.mono (Nat.le_of_eq hz.out.symm))
    obtain ⟨k0, k1, k2, k3⟩ := hcs.out _ hb1
    go_wp2_with fail
    refine (LV.out _).mono ?_
    rintro e w20 ⟨rfl, hb20⟩
    have hb20 := hb1.trans (hb20.mono (by have := hb1.size; have := hz.out; omega))
    go_wp2
    go_ret
    exact ⟨rfl, hb0.out.trans (hb20.mono (by omega))⟩
  · clear hf
    replace hb0 := Lib.hid hb0
    replace hz := Lib.hid hz
    replace hcs := Lib.hid hcs
    replace eV := Lib.hid eV
    go_enter Try.func10, Try.ntmps10
    go_wp2_with fail
    rw [← eV.out]
    obtain ⟨k0, k1, k2, k3⟩ := hcs.out _ (Below.refl _ _)
    go_wp2_with fail
    refine (RF.out _).mono ?_
    rintro e w1 ⟨rfl, hb1⟩
    have hb1 := (Below.refl (w.heap.size + 1) V).trans (hb1.mono (Nat.le_of_eq hz.out.symm))
    obtain ⟨k0, k1, k2, k3⟩ := hcs.out _ hb1
    go_wp2_with fail
    refine (LV.out _).mono ?_
    rintro e w20 ⟨rfl, hb20⟩
    have hb20 := hb1.trans (hb20.mono (by have := hb1.size; have := hz.out; omega))
    go_wp2
    go_ret
    exact ⟨rfl, hb0.out.trans (hb20.mono (by omega))⟩
  · clear hf
    replace hb0 := Lib.hid hb0
    replace hz := Lib.hid hz
    replace hcs := Lib.hid hcs
    replace eV := Lib.hid eV
    go_enter Try.func10, Try.ntmps10
    go_wp2_with fail
    rw [← eV.out]
    obtain ⟨k0, k1, k2, k3⟩ := hcs.out _ (Below.refl _ _)
    go_wp2_with fail
    refine (RF.out _).mono ?_
    rintro e w1 ⟨rfl, hb1⟩
    have hb1 := (Below.refl (w.heap.size + 1) V).trans (hb1.mono (Nat.le_of_eq hz.out.symm))
    obtain ⟨k0, k1, k2, k3⟩ := hcs.out _ hb1
    go_wp2_with fail
    refine (LV.out _).mono ?_
    rintro e w20 ⟨rfl, hb20⟩
    have hb20 := hb1.trans (hb20.mono (by have := hb1.size; have := hz.out; omega))
    go_wp2
    go_ret
    exact ⟨rfl, hb0.out.trans (hb20.mono (by omega))⟩
  have at' := frB_at hf
  have NW := Lib.hid (fun u => lknew_ok i pa u ⟨at'.1, at'.2.1, by omega, by omega⟩)
  obtain ⟨q, hq0⟩ : ∃ q, q = (s + sk) % 256 := ⟨_, rfl⟩
  obtain ⟨q2, hq2⟩ : ∃ x, x = (q + 1) % 256 := ⟨_, rfl⟩
  have hfq : frB i q v t = true := frB_mk ⟨at'.1, at'.2.1, by omega, by omega, at'.2.2.2.2.1, at'.2.2.2.2.2.1, at'.2.2.2.2.2.2.1, at'.2.2.2.2.2.2.2⟩
  have hfq2 : frB i q2 v t = true := frB_mk ⟨at'.1, at'.2.1, by omega, by omega, at'.2.2.2.2.1, at'.2.2.2.2.2.1, at'.2.2.2.2.2.2.1, at'.2.2.2.2.2.2.2⟩
  have RP := Lib.hid (fun u => rput_ok i s v t u hf)
  have RQ := Lib.hid (fun u => rput_ok i q v t u hfq)
  have RQ2 := Lib.hid (fun u => rput_ok i q2 v t u hfq2)
  have S1 := Lib.hid (fun (b g c : Nat) u (h : Held b (lkC i pa 0 0 0 0 false 0 0 0) u) hr hg => lkp_new b g c u h (by omega) (by omega) hf hr hg)
  have S0 := Lib.hid (fun (b : Nat) (ag : Int) u (h : Held b (lkC i pa i s v t true ag 1 0) u) (hg : 0 ≤ ag ∧ ag < 301) => by
    have := lkstep_none b u h (by omega) none 0
    rw [show agN ag = ag + 1 from by unfold agN; omega] at this
    exact this)
  have S2 := Lib.hid (fun (b g c : Nat) u (h : Held b (lkC i pa i s v t true pa 1 0) u) hr hg => by
    have := lkp_order (q := q) b g c u h (by omega) (by omega) hfq hr hg (by omega) (by omega)
    rw [show agN pa = pa + 1 from by unfold agN; omega] at this
    exact this)
  have S3 := Lib.hid (fun (b g c : Nat) u (h : Held b (lkC i pa i q v t true (pa + 1) 1 1) u) hr hg => lkp_ok (q := q2) b g c u h (by omega) (by omega) hfq2 hr hg (by omega) hq2)
  have SLA := Lib.hid (fun (b : Nat) (q ag n r : Int) u (h : Held b (lkC i pa i q v t true ag n r) u) => lkstale b u h)
  have AGE := Lib.hid (fun (b : Nat) (q ag n r : Int) u (h : Held b (lkC i pa i q v t true ag n r) u) => lkage b u h)
  have n1 : IntKind.i64.wrap (s + sk) = s + sk := by rw [IntKind.wrap_i64]; omega
  have n2 : (s + sk).tmod 256 = q := by rw [Int.tmod_eq_emod_of_nonneg (by omega), hq0]
  have n3 : IntKind.i64.wrap (q + 1) = q + 1 := by rw [IntKind.wrap_i64]; omega
  have n4 : (q + 1).tmod 256 = q2 := by rw [Int.tmod_eq_emod_of_nonneg (by omega), hq2]
  have n5 : IntKind.i64.wrap (pa + 1) = pa + 1 := by rw [IntKind.wrap_i64]; omega
  have p1 : decide (pa < pa + 1) = true := by simp; omega
  have p0 : decide (pa < 0) = false := by simp; omega
  clear hf hfq hfq2 at' hq0 hq2
  replace hb0 := Lib.hid hb0
  replace hz := Lib.hid hz
  replace hcs := Lib.hid hcs
  replace eV := Lib.hid eV
  go_enter Try.func10, Try.ntmps10
  go_wp2_with fail
  rw [← eV.out]
  obtain ⟨k0, k1, k2, k3⟩ := hcs.out _ (Below.refl _ _)
  go_wp2_with fail
  refine (RF.out _).mono ?_
  rintro e w1 ⟨rfl, hb1⟩
  have hb1 := (Below.refl (w.heap.size + 1) V).trans (hb1.mono (Nat.le_of_eq hz.out.symm))
  obtain ⟨k0, k1, k2, k3⟩ := hcs.out _ hb1
  go_wp2_with fail
  refine (NW.out _).mono ?_
  rintro e w2 ⟨b, hbb, rfl, hH, hb2⟩
  have hb := hb1.trans (hb2.mono (by have := hb1.size; have := hz.out; omega))
  have hbb := Lib.hid (show w.heap.size + 1 ≤ b from by have := hb1.size; have := hz.out; omega)
  clear hb1 hb2
  obtain ⟨k0, k1, k2, k3⟩ := hcs.out _ hb
  go_wp2_with fail
  refine (RP.out _).mono ?_
  rintro e w3 ⟨g3, c3, rfl, ho, hq⟩
  obtain ⟨hr, hg, -⟩ := own_bytes ho (by decide) rfl
  have hne : g3 ≠ b := by have := hH.lt; omega
  replace hH := hH.bel hq
  replace hb := hb.trans (hq.mono (by have := hb.size; have := hz.out; omega))
  clear ho hq hg
  go_wp2_with fail
  refine (S1.out b g3 c3 _ hH hr hne).mono ?_
  rintro e w4 ⟨rfl, hH', bs⟩
  replace hb := hb.trans (bs.below hbb.out (by have := hb.size; have := hz.out; omega))
  clear hH hr bs hne
  have hH := hH'
  clear hH'
  go_wp2_with fail
  go_loopw [9] (fun x u => ∃ k : Nat, (k : Int) ≤ pa ∧ x = .int .i64 (k : Int) ∧ Below (w.heap.size + 1) V u ∧ Hid (Held b (lkC i pa i s v t true (k : Int) 1 0) u)) (fun x _ => pa.toNat - (intOf x).toNat)
  case atStart => exact ⟨0, by omega, rfl, hb, Lib.hid hH⟩
  case round =>
    clear hb hH k0 k1 k2 k3
    obtain ⟨k, hk, rfl, hb, hH0⟩ := hrel
    obtain ⟨k0, k1, k2, k3⟩ := hcs.out _ hb
    by_cases hlt : (k : Int) < pa
    · have l0 : 0 ≤ (k : Int) := by omega
      have d9 : decide (pa < (k : Int) + 1) = false := by simp; omega
      go_wp2_with fail
      refine (S0.out b _ _ hH0.out (by omega)).mono ?_
      rintro e w5 ⟨rfl, hH, bs⟩
      have hb5 := hb.trans (bs.below hbb.out (by have := hb.size; have := hz.out; omega))
      clear hb bs hH0
      replace hH := Lib.hid hH
      go_wp2_with fail
      refine (SLA.out b _ _ _ _ _ hH.out).mono ?_
      rw [d9]
      rintro e w6 ⟨rfl, rfl⟩
      go_wp2
      go_roundw
      case rel => exact ⟨k + 1, by omega, by go_num, hb5.drew, Lib.hid (by rw [show ((k + 1 : Nat) : Int) = (k : Int) + 1 from by push_cast; rfl]; exact hH.out.drew)⟩
      case measure => simp [intOf]; omega
    · have ek : pa = (k : Int) := by omega
      have hge : pa ≤ (k : Int) := by omega
      have hH : Held b (lkC i pa i s v t true pa 1 0) wr := by
        have := hH0.out
        rw [← ek] at this
        exact this
      clear hH0
      generalize wr = v0 at *
      have hsz := Lib.hid (show w.heap.size + 1 ≤ v0.heap.size from by have := hb.size; have := hz.out; omega)
      obtain ⟨V1, eV1, hm1, hF1, hz1⟩ := f4_alloc v0 i s v t
      obtain ⟨U, eU, hF2, hm2⟩ := hF1.seq q
      have hb1 := hb.trans (hm1.mono hsz.out)
      have hbs1 := hH.lt
      obtain ⟨kk0, kk1, kk2, kk3⟩ := hcs.out _ hb1
      clear kk0 kk2 kk3
      obtain ⟨s1, es1⟩ : ∃ x, x = v0.heap.size := ⟨_, rfl⟩
      have hbU := hm1.trans hm2
      have hH2 := hH.bel hbU
      have hbx := hb.trans (hbU.mono hsz.out)
      rw [← es1] at hF1 hF2 eU
      have hsb := Lib.hid (show b < s1 ∧ w.heap.size + 1 ≤ s1 from by have := hsz.out; omega)
      replace eV1 := Lib.hid eV1
      replace eU := Lib.hid eU
      replace hF2 := Lib.hid hF2
      replace hH2 := Lib.hid hH2
      replace hbx := Lib.hid hbx
      replace es1 := Lib.hid es1
      replace ek := Lib.hid ek
      clear hm1 hm2 hz1 hbU hb hH hbs1 hb1
      go_upto_region 12 with (fail)
      rw [← eV1.out]
      clear k0 k1 k2 k3
      obtain ⟨-, j1, -, -, -, f1, -, -, -⟩ := hF1
      rw [← es1.out]
      go_upto_region 13 with (fail)
      rw [← eU.out]
      clear kk1 j1 f1
      have hF := hF2.out
      have hH := hH2.out
      have hb := hbx.out
      clear hF2 hH2 hbx
      obtain ⟨j0, j1, j2, j3⟩ : _ ∧ _ ∧ _ ∧ _ := ⟨hF.c0, hF.c1, hF.c2, hF.c3⟩
      go_wp2_with fail
      refine (RQ.out _).mono ?_
      rintro e w21 ⟨g21, c21, rfl, ho, hq⟩
      obtain ⟨hr, hg, -⟩ := own_bytes ho (by decide) rfl
      have hne : g21 ≠ b := by have := hH.lt; omega
      replace hH := hH.bel hq
      replace hF := hF.keep hq
      replace hb := hb.trans (hq.mono (by have := hb.size; have := hz.out; omega))
      clear ho hq hg
      go_wp2_with fail
      refine (S2.out b g21 c21 _ hH hr hne).mono ?_
      rintro e w22 ⟨rfl, hH', bs⟩
      replace hF := hF.beside bs (by have := hsb.out.1; omega)
      replace hb := hb.trans (bs.below hbb.out (by have := hb.size; have := hz.out; omega))
      clear hH hr bs hne
      have hH := hH'
      clear hH'
      go_upto_region 14 with (fail)
      obtain ⟨V22, eV, hm, hFn, hzn⟩ := f4_alloc w22 0 0 0 0
      rw [← eV]
      replace eV := Lib.hid eV
      replace hF := hF.keep hm
      replace hH := hH.bel hm
      replace hb := hb.trans (hm.mono (by have := hb.size; have := hz.out; omega))
      clear hm hFn hzn
      replace hH := Lib.hid hH
      replace hb := Lib.hid hb
      replace hF := Lib.hid hF
      go_wp2_with fail
      refine (SLA.out b _ _ _ _ _ hH.out).mono ?_
      rw [p1]
      rintro e w30 ⟨rfl, rfl⟩
      go_wp2_with fail
      refine (AGE.out b _ _ _ _ _ hH.out.drew).mono ?_
      rintro e w30 ⟨rfl, rfl⟩
      have hF3 := hF.out.drew
      have hH3 := Lib.hid hH.out.drew
      have hb3 := Lib.hid hb.out.drew
      generalize V22.drew = X at *
      clear eV hF hH hb
      obtain ⟨U2, eU2, hF4, hm4⟩ := hF3.seq q2
      have hH4 := Lib.hid (hH3.out.only (b' := s1) (show Only s1 X U2 from by rw [eU2]; exact (Only.refl s1 X).setCell (p := ⟨s1, 1, none⟩) _) (by have := hsb.out; omega))
      have hb4 := Lib.hid (hb3.out.trans (hm4.mono (by have := hsb.out; omega)))
      replace eU2 := Lib.hid eU2
      replace hF4 := Lib.hid hF4
      obtain ⟨-, j1, -, -, -, f1, -, -, -⟩ := hF3
      clear hH3 hb3 hm4
      go_upto_region 17 with (fail)
      rw [← eU2.out]
      clear j1 f1
      have hF := hF4.out
      have hH := hH4.out
      have hb := hb4.out
      clear hF4 hH4 hb4
      obtain ⟨j0, j1, j2, j3⟩ : _ ∧ _ ∧ _ ∧ _ := ⟨hF.c0, hF.c1, hF.c2, hF.c3⟩
      go_wp2_with fail
      refine (RQ2.out _).mono ?_
      rintro e w31 ⟨g31, c31, rfl, ho, hq⟩
      obtain ⟨hr, hg, -⟩ := own_bytes ho (by decide) rfl
      have hne : g31 ≠ b := by have := hH.lt; omega
      replace hH := hH.bel hq
      replace hF := hF.keep hq
      replace hb := hb.trans (hq.mono (by have := hb.size; have := hz.out; omega))
      clear ho hq hg
      go_wp2_with fail
      refine (S3.out b g31 c31 _ hH hr hne).mono ?_
      rintro e w32 ⟨rfl, hH', bs⟩
      replace hF := hF.beside bs (by have := hsb.out.1; omega)
      replace hb := hb.trans (bs.below hbb.out (by have := hb.size; have := hz.out; omega))
      clear hH hr bs hne
      have hH := hH'
      clear hH'
      go_upto_region 18 with (fail)
      obtain ⟨V32, eV, hm, hFn, hzn⟩ := f4_alloc w32 i q2 v t
      rw [← eV]
      replace eV := Lib.hid eV
      replace hF := hF.keep hm
      replace hH := hH.bel hm
      replace hb := hb.trans (hm.mono (by have := hb.size; have := hz.out; omega))
      clear hm hFn hzn
      replace hH := Lib.hid hH
      replace hb := Lib.hid hb
      go_wp2_with fail
      refine (SLA.out b _ _ _ _ _ hH.out).mono ?_
      rw [p0]
      rintro e w40 ⟨rfl, rfl⟩
      have hb40 := hb.out.drew
      go_wp2_with fail
      refine (LV.out _).mono ?_
      rintro e w41 ⟨rfl, hb41⟩
      have hb42 := Lib.hid (hb0.out.trans ((hb40.trans (hb41.mono (by have := hb40.size; have := hz.out; omega))).mono (by omega)))
      clear hb40 hb41
      go_wp2
      go_ret
      exact ⟨rfl, hb42.out⟩
end Go.Proofs.Ytflcagcekhgjcaa
