/- The document's roots, by halving: Row, Not, Root, Sqrt; the laws RootTells and RootSquares, walked. -/
import Derived.Test.YtiibgblpbjdpaaaDig4
import Derived.Deep.Cut
import Derived.Test.YtiibgblpbjdpaaaRoot5
namespace Go.Proofs.Ytiibgblpbjdpaaa
open Go.ChangeShapes Go.WideShapes Go.ChangeAt Go.RowKit
set_option linter.unusedVariables false
set_option linter.unusedSimpArgs false

theorem u64_wf {n : Int} (h : (Lit.int .u64 n).wf = true) : 0 ≤ n ∧ n ≤ 18446744073709551615 := by
  simp [Lit.wf, IntKind.min, IntKind.max, IntKind.signed, IntKind.bits] at h
  omega
/-- Two words as digits, k of each done. -/
def Rwi (hi lo : Int) (f : Nat → Int) (k : Nat) : Prop := Ds f 12 ∧ sm f 12 = lo % pw k + hi % pw k * pw 4 ∧ (∀ j, k ≤ j → j < 4 → f j = 0) ∧ ∀ j, 4 + k ≤ j → f j = 0
theorem Rwi.start (hi lo : Int) : Rwi hi lo (fun _ => 0) 0 := ⟨Ds.zero 12, by rw [sm_zero]; simp [pw, Int.emod_one], fun _ _ _ => rfl, fun _ _ => rfl⟩
theorem Rwi.step {hi lo : Int} {f : Nat → Int} {k : Nat} (h : Rwi hi lo f k) (hk : k < 4) : Rwi hi lo (upd (upd f k (dg lo k)) (k + 4) (dg hi k)) (k + 1) := by
  obtain ⟨h1, h2, h3, h4⟩ := h
  have bl := dg_bd lo k
  have bh := dg_bd hi k
  refine ⟨(h1.upd k bl.1 bl.2).upd (k + 4) bh.1 bh.2, ?_, fun j a b => ?_, fun j a => ?_⟩
  · rw [sm_upd _ (k + 4) _ 12 (by omega), sm_upd _ k _ 12 (by omega), upd_ne _ _ (by omega), h3 k (Nat.le_refl _) hk, h4 (k + 4) (by omega), h2, mod_pw_succ, mod_pw_succ, pw_add, Int.add_mul (hi % pw k), Int.sub_zero, Int.sub_zero, Int.mul_assoc (dg hi k)]
    omega
  · rw [upd_ne _ _ (by omega), upd_ne _ _ (by omega)]; exact h3 j (by omega) b
  · rw [upd_ne _ _ (by omega), upd_ne _ _ (by omega)]; exact h4 j (by omega)
theorem Rwi.fin {hi lo : Int} {f : Nat → Int} (h : Rwi hi lo f 4) (a0 : 0 ≤ hi) (a1 : hi < pw 4) (b0 : 0 ≤ lo) (b1 : lo < pw 4) : ∀ i, i < 12 → f i = dg (hi * 18446744073709551616 + lo) i :=
  digits_of h.1 (by rw [h.2.1, Int.emod_eq_of_lt a0 a1, Int.emod_eq_of_lt b0 b1, pw_4]; omega)

set_option maxHeartbeats 2000000 in
theorem rrow_any (hi lo : Int) (w : World) (a0 : 0 ≤ hi) (a1 : hi ≤ 18446744073709551615) (b0 : 0 ≤ lo) (b1 : lo ≤ 18446744073709551615) :
    Calls Try.prog 78 #[.int .u64 hi, .int .u64 lo] w fun e w' => e = .returned (rwv (hi * 18446744073709551616 + lo)) ∧ Below w.heap.size w w' := by
  have HB := Lib.hid (show hi < pw 4 ∧ lo < pw 4 by rw [pw_4]; omega)
  go_enter Try.func78, Try.ntmps78
  go_wp2
  go_loopw [0, 1, 6] (fun p q i v => ∃ (k : Nat) (f : Nat → Int), k ≤ 4 ∧ i = .int .i64 k ∧ p = .int .u64 (hi / pw k) ∧ q = .int .u64 (lo / pw k) ∧ Rw w.heap.size (fun _ => 0) v ∧ Rw (w.heap.size + 1) f v ∧ Below w.heap.size w v ∧ Hid (Rwi hi lo f k)) (fun _ _ i _ => 4 - (intOf i).toNat)
  case atStart => exact ⟨0, fun _ => 0, by omega, rfl, by simp [pw], by simp [pw], (Rw.new w (fun _ => 0) 82).alloc _, Rw.new' (fun _ => 0) 82 (by simp), (by repeat (first | exact Below.refl _ _ | assumption | apply Below.drew | apply below_drewN | (refine Below.alloc ?_ (by first | exact Nat.le_refl _ | omega | (simp <;> omega)) _) | (refine Below.setCell ?_ (by first | exact Nat.le_refl _ | omega | (simp <;> omega)) _))), Lib.hid (Rwi.start hi lo)⟩
  case round =>
    obtain ⟨k, f, hk, rfl, rfl, rfl, hZ, hR, hb, hU⟩ := hrel
    have mh : 0 ≤ hi / pw k ∧ hi / pw k ≤ 18446744073709551615 := ⟨Int.ediv_nonneg a0 (by have := pw_pos k; omega), Int.le_trans (Int.ediv_le_self _ a0) a1⟩
    have ml : 0 ≤ lo / pw k ∧ lo / pw k ≤ 18446744073709551615 := ⟨Int.ediv_nonneg b0 (by have := pw_pos k; omega), Int.le_trans (Int.ediv_le_self _ b0) b1⟩
    have dh := Lib.hid (show hi / pw k % 65536 = dg hi k from rfl)
    have dl := Lib.hid (show lo / pw k % 65536 = dg lo k from rfl)
    have sh := Lib.hid (div_pw_succ hi k)
    have sl := Lib.hid (div_pw_succ lo k)
    generalize hi / pw k = p at *
    generalize lo / pw k = q at *
    by_cases hlt : k < 4
    · have hk12 : (k : Int) < 12 := by omega
      have hk4 : (k : Int) + 4 < 12 := by omega
      have et : ((k : Int) + 4).toNat = k + 4 := by omega
      have c1 := hR.c k (by omega)
      have f1 := hR.f k (by omega)
      have hR1 := hR.set k (q % 65536) (by omega)
      have c2 := hR1.c (k + 4) (by omega)
      have f2 := hR1.f (k + 4) (by omega)
      have st := Lib.hid (hU.out.step hlt)
      go_wp2
      go_roundw
      case rel => exact ⟨k + 1, _, by omega, by go_num, by rw [sh.out], by rw [sl.out], (hZ.other (by omega) _ _).other (by omega) _ _, hR1.set (k + 4) (p % 65536) (by omega), (hb.setCell (by simp) _).setCell (by simp) _, by rw [dh.out, dl.out]; exact st⟩
      case measure => simp [intOf]; omega
    · obtain rfl : k = 4 := by omega
      have hR := hR.congr (hU.out.fin a0 HB.out.1 b0 HB.out.2)
      have hS12 := hR
      obtain ⟨c0, c1, c2, c3, c4, c5, c6, c7, c8, c9, c10, c11⟩ := hS12.all
      obtain ⟨z0, z1, z2, z3, z4, z5, z6, z7, z8, z9, z10, z11⟩ := (hZ).all
      obtain ⟨y0, y1, y2, y3, y4, y5, y6, y7, y8, y9, y10, y11⟩ := (hZ).allf
      go_wp2
      change bodyPost _ _ _ _ _ (rput (w.heap.size) (dg (hi * 18446744073709551616 + lo)) _)
      have hW := (hZ).put (dg (hi * 18446744073709551616 + lo))
      have hB := rput_below (hb) (by omega : w.heap.size ≤ w.heap.size) (dg (hi * 18446744073709551616 + lo))
      clear c0 c1 c2 c3 c4 c5 c6 c7 c8 c9 c10 c11 z0 z1 z2 z3 z4 z5 z6 z7 z8 z9 z10 z11 y0 y1 y2 y3 y4 y5 y6 y7 y8 y9 y10 y11
      generalize rput (w.heap.size) (dg (hi * 18446744073709551616 + lo)) _ = wz at *
      obtain ⟨c0, c1, c2, c3, c4, c5, c6, c7, c8, c9, c10, c11⟩ := hW.all
      refine bodyPost_ret (v := rwv (hi * 18446744073709551616 + lo)) (by simp [results, Try.results78, go_sem, rwv, c0, c1, c2, c3, c4, c5, c6, c7, c8, c9, c10, c11]) rfl ⟨rfl, hB⟩

theorem rrow_lo (lo : Int) (w : World) (b0 : 0 ≤ lo) (b1 : lo ≤ 18446744073709551615) :
    Calls Try.prog 78 #[.int .u64 0, .int .u64 lo] w fun e w' => e = .returned (rwv lo) ∧ Below w.heap.size w w' := by
  have := rrow_any 0 lo w (by omega) (by omega) b0 b1
  rwa [show (0 : Int) * 18446744073709551616 + lo = lo by omega] at this

set_option maxRecDepth 100000 in
set_option maxHeartbeats 4000000 in
theorem rnot_any (r N : Int) (w : World) (r0 : 0 ≤ r) (r1 : r ≤ 18446744073709551615) (n0 : 0 ≤ N) (n1 : N ≤ 340282366920938463463374607431768211455) :
    Calls Try.prog 62 #[.int .u64 r, rwv N] w fun e w' => e = .returned (.bool (decide (r * r ≤ N))) ∧ Below w.heap.size w w' := by
  have RW := Lib.hid (fun u => rrow_lo r u r0 r1)
  have sq := sq_bd r r0 r1
  have p12 : 340282366920938463463374607431768211456 < pw 12 := by rw [pw_12]; decide
  have p4 : 18446744073709551615 < pw 4 := by rw [pw_4]; decide
  have TM := Lib.hid (fun u => rtimes_any r r u r0 (by omega) r0 (by omega))
  have CM := fun u => rcmp_any (r * r) N u sq.1 (by omega) n0 (by omega)
  have eD : decide (rcmp (r * r) N ≤ 0) = decide (r * r ≤ N) := by
    by_cases h : r * r ≤ N
    · rw [decide_eq_true h]; apply decide_eq_true; unfold rcmp; omega
    · rw [decide_eq_false h]; apply decide_eq_false; unfold rcmp; omega
  rw [← eD]
  clear eD p12 p4 n0 n1 sq
  generalize r * r = S at *
  generalize rcmp S N = c at *
  replace CM := Lib.hid CM
  have hN := Rw.new w (dg N) 82
  go_enter Try.func62, Try.ntmps62
  go_wp2_with fail
  refine (RW.out _).mono ?_
  rintro e w1 ⟨rfl, hb1⟩
  replace hN := hN.bel hb1
  have hb := (((Below.refl w.heap.size w).alloc (Nat.le_refl _) (.cells (rwc (dg N)) 82)).trans (hb1.mono (by simp)) : Below w.heap.size w w1)
  clear hb1
  go_upto_region 2 with (fail)
  have hX := Rw.new w1 (dg r) 82
  have hlt := Lib.hid hN.lt
  replace hN := hN.alloc (.cells (rwc (dg r)) 82)
  have hbw := hb.alloc hb.size (.cells (rwc (dg r)) 82)
  change Code.wp _ _ _ _ (w1.alloc (.cells (rwc (dg r)) 82))
  generalize w1.alloc (.cells (rwc (dg r)) 82) = v1 at *
  generalize w1.heap.size = s at *
  obtain ⟨c0, c1, c2, c3, c4, c5, c6, c7, c8, c9, c10, c11⟩ := hX.all
  obtain ⟨d0, d1, d2, d3, d4, d5, d6, d7, d8, d9, d10, d11⟩ := hN.all
  refine region_moves (fun u => (u.cell? ⟨s, 0, none⟩ = some (.int .u64 (dg r 0)) ∧ u.cell? ⟨s, 1, none⟩ = some (.int .u64 (dg r 1)) ∧ u.cell? ⟨s, 2, none⟩ = some (.int .u64 (dg r 2)) ∧ u.cell? ⟨s, 3, none⟩ = some (.int .u64 (dg r 3)) ∧ u.cell? ⟨s, 4, none⟩ = some (.int .u64 (dg r 4)) ∧ u.cell? ⟨s, 5, none⟩ = some (.int .u64 (dg r 5)) ∧ u.cell? ⟨s, 6, none⟩ = some (.int .u64 (dg r 6)) ∧ u.cell? ⟨s, 7, none⟩ = some (.int .u64 (dg r 7)) ∧ u.cell? ⟨s, 8, none⟩ = some (.int .u64 (dg r 8)) ∧ u.cell? ⟨s, 9, none⟩ = some (.int .u64 (dg r 9)) ∧ u.cell? ⟨s, 10, none⟩ = some (.int .u64 (dg r 10)) ∧ u.cell? ⟨s, 11, none⟩ = some (.int .u64 (dg r 11))) ∧ (u.cell? ⟨w.heap.size, 0, none⟩ = some (.int .u64 (dg N 0)) ∧ u.cell? ⟨w.heap.size, 1, none⟩ = some (.int .u64 (dg N 1)) ∧ u.cell? ⟨w.heap.size, 2, none⟩ = some (.int .u64 (dg N 2)) ∧ u.cell? ⟨w.heap.size, 3, none⟩ = some (.int .u64 (dg N 3)) ∧ u.cell? ⟨w.heap.size, 4, none⟩ = some (.int .u64 (dg N 4)) ∧ u.cell? ⟨w.heap.size, 5, none⟩ = some (.int .u64 (dg N 5)) ∧ u.cell? ⟨w.heap.size, 6, none⟩ = some (.int .u64 (dg N 6)) ∧ u.cell? ⟨w.heap.size, 7, none⟩ = some (.int .u64 (dg N 7)) ∧ u.cell? ⟨w.heap.size, 8, none⟩ = some (.int .u64 (dg N 8)) ∧ u.cell? ⟨w.heap.size, 9, none⟩ = some (.int .u64 (dg N 9)) ∧ u.cell? ⟨w.heap.size, 10, none⟩ = some (.int .u64 (dg N 10)) ∧ u.cell? ⟨w.heap.size, 11, none⟩ = some (.int .u64 (dg N 11)))) [] [(.take, 0), (.take, 1), (.take, 3), (.step, 2), (.step, 4), (.free, 5), (.free, 6)] _ (by kernel_rfl) (by kernel_rfl) (by kernel_rfl) (by kernel_rfl) (by decide) rfl (fun _ _ _ _ _ h => h) ?_
  simp only [List.filterMap_cons, List.filterMap_nil, List.getElem?_toArray, List.getElem?_cons_zero, List.getElem?_cons_succ, Option.map_some]
  iterate 3
    first
      | (refine mv_take ?_ (Or.inl ⟨by rfl, ?_⟩) (⟨⟨c0, c1, c2, c3, c4, c5, c6, c7, c8, c9, c10, c11⟩, ⟨d0, d1, d2, d3, d4, d5, d6, d7, d8, d9, d10, d11⟩⟩) ?_
         rotate_left 1
         · intro u hu
           (try dsimp only at hu)
           go_simp
           try with_reducible rfl
         simp only [Act.put, List.setIfInBounds_toArray, List.set_cons_zero, List.set_cons_succ])
      | (refine mv_take _ (Or.inr ⟨by rfl, rfl⟩) (⟨⟨c0, c1, c2, c3, c4, c5, c6, c7, c8, c9, c10, c11⟩, ⟨d0, d1, d2, d3, d4, d5, d6, d7, d8, d9, d10, d11⟩⟩) ?_
         simp only [Act.put, List.setIfInBounds_toArray, List.set_cons_zero, List.set_cons_succ])
  refine mv_step (fun K hK => ?_)
  go_simp
  refine (TM.out _).mono ?_
  rintro e w2 ⟨rfl, hb2⟩
  replace hX := hX.drew.bel hb2
  replace hN := hN.drew.bel hb2
  replace hbw := hbw.drew.trans (hb2.mono hbw.drew.size)
  clear hb2 c0 c1 c2 c3 c4 c5 c6 c7 c8 c9 c10 c11 d0 d1 d2 d3 d4 d5 d6 d7 d8 d9 d10 d11
  obtain ⟨c0, c1, c2, c3, c4, c5, c6, c7, c8, c9, c10, c11⟩ := hX.all
  obtain ⟨d0, d1, d2, d3, d4, d5, d6, d7, d8, d9, d10, d11⟩ := hN.all
  go_wp2_with fail
  refine hK.out _ _ _ (fun u hu => hu) (⟨⟨c0, c1, c2, c3, c4, c5, c6, c7, c8, c9, c10, c11⟩, ⟨d0, d1, d2, d3, d4, d5, d6, d7, d8, d9, d10, d11⟩⟩) ?_
  clear hK K
  refine mv_step (fun K hK => ?_)
  go_simp
  refine (CM.out _).mono ?_
  rintro e w3 ⟨rfl, hb3⟩
  replace hX := hX.bel hb3
  replace hN := hN.bel hb3
  replace hbw := hbw.trans (hb3.mono hbw.size)
  clear hb3 c0 c1 c2 c3 c4 c5 c6 c7 c8 c9 c10 c11 d0 d1 d2 d3 d4 d5 d6 d7 d8 d9 d10 d11
  obtain ⟨c0, c1, c2, c3, c4, c5, c6, c7, c8, c9, c10, c11⟩ := hX.all
  obtain ⟨d0, d1, d2, d3, d4, d5, d6, d7, d8, d9, d10, d11⟩ := hN.all
  go_wp2_with fail
  refine hK.out _ _ _ (fun u hu => hu) (⟨⟨c0, c1, c2, c3, c4, c5, c6, c7, c8, c9, c10, c11⟩, ⟨d0, d1, d2, d3, d4, d5, d6, d7, d8, d9, d10, d11⟩⟩) ?_
  clear hK K
  iterate 2
    first
      | (refine mv_free ?_ (Or.inl ⟨by rfl, ?_⟩) (⟨⟨c0, c1, c2, c3, c4, c5, c6, c7, c8, c9, c10, c11⟩, ⟨d0, d1, d2, d3, d4, d5, d6, d7, d8, d9, d10, d11⟩⟩) ?_
         rotate_left 1
         · intro u
           go_simp
           try with_reducible rfl
         simp only [Act.put, List.setIfInBounds_toArray, List.set_cons_zero, List.set_cons_succ])
      | (refine mv_free _ (Or.inr ⟨by rfl, rfl⟩) (⟨⟨c0, c1, c2, c3, c4, c5, c6, c7, c8, c9, c10, c11⟩, ⟨d0, d1, d2, d3, d4, d5, d6, d7, d8, d9, d10, d11⟩⟩) ?_
         simp only [Act.put, List.setIfInBounds_toArray, List.set_cons_zero, List.set_cons_succ])
  refine mv_done ?_
  clear c0 c1 c2 c3 c4 c5 c6 c7 c8 c9 c10 c11 d0 d1 d2 d3 d4 d5 d6 d7 d8 d9 d10 d11
  go_wp2
  go_ret
  exact ⟨rfl, hbw⟩

/-- What halving holds: the root lies between both. -/
def Hlf (N l h : Int) : Prop := l * l ≤ N ∧ N < (h + 1) * (h + 1)
theorem Hlf.fin {N l : Int} (h0 : 0 ≤ l) (h : Hlf N l l) : l = rt N := (rt_eq ⟨h0, h.1, h.2⟩).symm

set_option maxRecDepth 100000 in
set_option maxHeartbeats 4000000 in
theorem rroot_any (N : Int) (w : World) (n0 : 0 ≤ N) (n1 : N ≤ 340282366920938463463374607431768211455) :
    Calls Try.prog 38 #[rwv N] w fun e w' => e = .returned (.int .u64 (rt N)) ∧ Below w.heap.size w w' := by
  have NT := Lib.hid (fun r (a : 0 ≤ r) (b : r ≤ 18446744073709551615) u => rnot_any r N u a b n0 n1)
  have H0 := Lib.hid (show Hlf N 0 18446744073709551615 from ⟨by omega, by omega⟩)
  clear n0 n1
  go_enter Try.func38, Try.ntmps38
  go_wp2
  go_loopw [3, 4] (fun a b v => ∃ l h : Int, 0 ≤ l ∧ l ≤ h ∧ h ≤ 18446744073709551615 ∧ a = .int .u64 l ∧ b = .int .u64 h ∧ Rw w.heap.size (dg N) v ∧ Below w.heap.size w v ∧ Hid (Hlf N l h)) (fun a b _ => (intOf b - intOf a).toNat)
  case atStart => exact ⟨0, 18446744073709551615, by omega, by omega, by omega, rfl, rfl, Rw.new w (dg N) 82, (by repeat (first | exact Below.refl _ _ | assumption | apply Below.drew | apply below_drewN | (refine Below.alloc ?_ (by first | exact Nat.le_refl _ | omega | (simp <;> omega)) _) | (refine Below.setCell ?_ (by first | exact Nat.le_refl _ | omega | (simp <;> omega)) _))), H0⟩
  case round =>
    obtain ⟨l, h, l0, lh, h1, rfl, rfl, hN, hb, hH⟩ := hrel
    by_cases hlt : l < h
    · obtain ⟨m, hm⟩ : ∃ m, m = h - (h - l) / 2 := ⟨_, rfl⟩
      have m0 : l < m := by omega
      have m1 : m ≤ h := by omega
      have NM := NT.out m (by omega) (by omega)
      have hw1 : IntKind.u64.wrap (h - l) = h - l := IntWalk.u64_in _ ⟨by omega, by omega⟩
      have hw2 : IntKind.u64.wrap (h - (h - l) / 2) = m := by rw [← hm]; exact IntWalk.u64_in _ ⟨by omega, by omega⟩
      have hw3 : h - (h - l) / 2 = m := hm.symm
      obtain ⟨c0, c1, c2, c3, c4, c5, c6, c7, c8, c9, c10, c11⟩ := hN.all
      by_cases hs : m * m ≤ N
      · rw [decide_eq_true hs] at NM
        replace NM := Lib.hid NM
        have st := Lib.hid (show Hlf N m h from ⟨hs, hH.out.2⟩)
        clear hs hm
        go_wp2_with fail
        refine (NM.out _).mono ?_
        rintro e w1 ⟨rfl, hb1⟩
        clear c0 c1 c2 c3 c4 c5 c6 c7 c8 c9 c10 c11
        go_wp2
        go_roundw
        case rel => exact ⟨m, h, by omega, by omega, by omega, rfl, rfl, hN.bel hb1, hb.trans (hb1.mono hb.size), st⟩
        case measure => simp [intOf]; omega
      · rw [decide_eq_false hs] at NM
        replace NM := Lib.hid NM
        have st := Lib.hid (show Hlf N l (m - 1) from ⟨hH.out.1, by rw [show m - 1 + 1 = m by omega]; omega⟩)
        clear hs hm
        go_wp2_with fail
        refine (NM.out _).mono ?_
        rintro e w1 ⟨rfl, hb1⟩
        clear c0 c1 c2 c3 c4 c5 c6 c7 c8 c9 c10 c11
        go_wp2
        go_roundw
        case rel => exact ⟨l, m - 1, by omega, by omega, by omega, rfl, rfl, hN.bel hb1, hb.trans (hb1.mono hb.size), st⟩
        case measure => simp [intOf]; omega
    · obtain rfl : l = h := by omega
      have hr := Lib.hid (hH.out.fin l0)
      go_wp2
      go_ret
      exact ⟨ret_int hr.out, hb⟩

set_option maxRecDepth 100000 in
set_option maxHeartbeats 4000000 in
theorem rsqrt_any (N : Int) (w : World) (n0 : 0 ≤ N) (n1 : N ≤ 9223372036854775807) :
    Calls Try.prog 57 #[.int .i64 N] w fun e w' => e = .returned (.int .i64 (rt N)) ∧ w = w' := by
  have H0 := Lib.hid (show Hlf N 0 3037000499 from ⟨by omega, by omega⟩)
  go_enter Try.func57, Try.ntmps57
  go_wp2
  go_loop [3, 4] (fun a b => ∃ l h : Int, 0 ≤ l ∧ l ≤ h ∧ h ≤ 3037000499 ∧ a = .int .i64 l ∧ b = .int .i64 h ∧ Hid (Hlf N l h)) (fun a b => (intOf b - intOf a).toNat)
  case atStart => exact ⟨0, 3037000499, by omega, by omega, by omega, rfl, rfl, H0⟩
  case round =>
    obtain ⟨l, h, l0, lh, h1, rfl, rfl, hH⟩ := hrel
    by_cases hlt : l < h
    · obtain ⟨m, hm⟩ : ∃ m, m = h - (h - l) / 2 := ⟨_, rfl⟩
      have m0 : l < m := by omega
      have m1 : m ≤ h := by omega
      have ms : 0 ≤ m * m ∧ m * m ≤ 9223372030926249001 := ⟨Int.mul_nonneg (by omega) (by omega), by have := Int.mul_le_mul (show m ≤ 3037000499 by omega) (show m ≤ 3037000499 by omega) (by omega) (by omega : (0 : Int) ≤ 3037000499); omega⟩
      have hw3 : h - (h - l) / 2 = m := hm.symm
      obtain ⟨S, hS⟩ : ∃ S, S = m * m := ⟨_, rfl⟩
      rw [← hS] at ms
      have hw4 : m * m = S := hS.symm
      by_cases hs : S ≤ N
      · have st := Lib.hid (show Hlf N m h from ⟨by omega, hH.out.2⟩)
        clear hm hS
        go_wp2
        go_round
        case rel => exact ⟨m, h, by omega, by omega, by omega, rfl, rfl, st⟩
        case measure => simp [intOf]; omega
      · have st := Lib.hid (show Hlf N l (m - 1) from ⟨hH.out.1, by rw [show m - 1 + 1 = m by omega]; omega⟩)
        clear hm hS
        go_wp2
        go_round
        case rel => exact ⟨l, m - 1, by omega, by omega, by omega, rfl, rfl, st⟩
        case measure => simp [intOf]; omega
    · obtain rfl : l = h := by omega
      have hr := Lib.hid (hH.out.fin l0)
      go_wp2
      go_ret
      exact ⟨ret_int hr.out, rfl⟩


end Go.Proofs.Ytiibgblpbjdpaaa
