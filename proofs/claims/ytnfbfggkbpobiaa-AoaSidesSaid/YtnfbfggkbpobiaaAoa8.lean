/- The law AoaSides, walked. -/
import Derived.Test.YtnfbfggkbpobiaaAoa7
import Derived.Deep.Cut
namespace Go.Proofs.Ytnfbfggkbpobiaa
open Go.ChangeShapes Go.WideShapes Go.ChangeAt Go.RowKit
set_option linter.unusedVariables false
set_option linter.unusedSimpArgs false

theorem apt_in {p q : Int} (p1 : -90000 ≤ p) (p2 : p ≤ 90000) (q1 : -90000 ≤ q) (q2 : q ≤ 90000) : apt p q = (if p < q then q - p else p - q) ∧ apt q p = apt p q ∧ men q p = men p q := by
  unfold apt men
  rw [clq_in p1 p2, clq_in q1 q2]
  refine ⟨rfl, ?_, by rw [Int.add_comm]⟩
  by_cases h : p < q
  · rw [if_pos h, if_neg (by omega)]
  · rw [if_neg h]
    by_cases h' : q < p
    · rw [if_pos h']
    · rw [if_neg h']; omega
set_option maxRecDepth 100000 in
set_option maxHeartbeats 8000000 in
theorem law_AoaSides (ax ay : Option Addr) (cx cy : Nat) (X Y : List Int) (tau arm sh : Int) (t : Option Addr) (cap : Nat) (rows : List (List Value)) (w : World) (hx : RowIs .i64 w ax X) (hy : RowIs .i64 w ay Y) (ht : Tab [some .i64, some .i64, some .i64, some .i64, some .i64, some .i64] w t rows) (hl : rows.length ≤ maxLen) :
    Calls Try.prog 12 #[.agg #[.slice ax X.length cx, .slice ay Y.length cy, .int .i64 tau, .int .i64 arm, .int .i64 sh], .slice t rows.length cap] w fun e w' => e = .returned (.bool true) ∧ Below w.heap.size w w' := by
  unfold maxLen at hl
  have LV := Lib.hid (fun u => lives39 u)
  have GR := fun u => agreat_any ax ay cx cy X Y u
  obtain ⟨V, eV, hb0, hz, hcs⟩ := abt_box w ax ay cx cy X Y tau arm sh
  have W := fun u (h : Below (w.heap.size + 1) V u) => show Below w.heap.size w u from hb0.trans (h.mono (by omega))
  cases hgr : (decide (300 < X.length) || decide (300 < Y.length))
  case true =>
    rw [hgr] at GR
    replace GR := Lib.hid GR
    clear hgr hx hy ht hl W
    replace hb0 := Lib.hid hb0
    replace hz := Lib.hid hz
    replace hcs := Lib.hid hcs
    replace eV := Lib.hid eV
    go_enter Try.func12, Try.ntmps12
    go_wp2_with fail
    rw [← eV.out]
    obtain ⟨k0, k1, k2, k3, k4⟩ := hcs.out _ (Below.refl _ _)
    go_wp2_with fail
    refine (GR.out _).mono ?_
    rintro e w1 ⟨rfl, hb1⟩
    have hb1 := (Below.refl (w.heap.size + 1) V).trans (hb1.mono (Nat.le_of_eq hz.out.symm))
    obtain ⟨k0, k1, k2, k3, k4⟩ := hcs.out _ hb1
    go_wp2_with fail
    refine (LV.out _).mono ?_
    rintro e w2 ⟨rfl, hb2⟩
    have hb2 := hb1.trans (hb2.mono (by have := hb1.size; have := hz.out; omega))
    clear hb1
    go_wp2
    go_ret
    exact ⟨rfl, hb0.out.trans (hb2.mono (by omega))⟩
  rw [hgr] at GR
  replace GR := Lib.hid GR
  have hX : X.length ≤ 300 := by simp at hgr; omega
  have hY : Y.length ≤ 300 := by simp at hgr; omega
  clear hgr
  by_cases hL : 60 < rows.length
  · have dl : (60 : Int) < (rows.length : Int) := by omega
    clear hx hy ht hl W hL hX hY
    replace hb0 := Lib.hid hb0
    replace hz := Lib.hid hz
    replace hcs := Lib.hid hcs
    replace eV := Lib.hid eV
    go_enter Try.func12, Try.ntmps12
    go_wp2_with fail
    rw [← eV.out]
    obtain ⟨k0, k1, k2, k3, k4⟩ := hcs.out _ (Below.refl _ _)
    go_wp2_with fail
    refine (GR.out _).mono ?_
    rintro e w1 ⟨rfl, hb1⟩
    have hb1 := (Below.refl (w.heap.size + 1) V).trans (hb1.mono (Nat.le_of_eq hz.out.symm))
    obtain ⟨k0, k1, k2, k3, k4⟩ := hcs.out _ hb1
    go_wp2_with fail
    refine (LV.out _).mono ?_
    rintro e w2 ⟨rfl, hb2⟩
    have hb2 := hb1.trans (hb2.mono (by have := hb1.size; have := hz.out; omega))
    clear hb1
    go_wp2
    go_ret
    exact ⟨rfl, hb0.out.trans (hb2.mono (by omega))⟩
  have dl : (rows.length : Int) ≤ 60 := by omega
  cases hw : agB X Y tau arm sh
  case false =>
    have NW := Lib.hid (fun u (h : Below (w.heap.size + 1) V u) => aonew_no ax ay cx cy X Y tau arm sh u (hx.below (W u h)) (hy.below (W u h)) hX hY hw)
    clear hw hx hy hX hY W ht hl hL
    replace hb0 := Lib.hid hb0
    replace hz := Lib.hid hz
    replace hcs := Lib.hid hcs
    replace eV := Lib.hid eV
    go_enter Try.func12, Try.ntmps12
    go_wp2_with fail
    rw [← eV.out]
    obtain ⟨k0, k1, k2, k3, k4⟩ := hcs.out _ (Below.refl _ _)
    go_wp2_with fail
    refine (GR.out _).mono ?_
    rintro e w1 ⟨rfl, hb1⟩
    have hb1 := (Below.refl (w.heap.size + 1) V).trans (hb1.mono (Nat.le_of_eq hz.out.symm))
    obtain ⟨k0, k1, k2, k3, k4⟩ := hcs.out _ hb1
    go_wp2_with fail
    refine (NW.out _ hb1).mono ?_
    rintro e w2 ⟨rfl, hb2⟩
    have hb2 := hb1.trans (hb2.mono (by have := hb1.size; have := hz.out; omega))
    clear hb1
    obtain ⟨k0, k1, k2, k3, k4⟩ := hcs.out _ hb2
    go_wp2_with fail
    refine (NW.out _ hb2).mono ?_
    rintro e w3 ⟨rfl, hb3⟩
    have hb3 := hb2.trans (hb3.mono (by have := hb2.size; have := hz.out; omega))
    clear hb2
    obtain ⟨k0, k1, k2, k3, k4⟩ := hcs.out _ hb3
    go_wp2_with fail
    refine (LV.out _).mono ?_
    rintro e w4 ⟨rfl, hb4⟩
    have hb4 := hb3.trans (hb4.mono (by have := hb3.size; have := hz.out; omega))
    clear hb3
    go_wp2
    go_ret
    exact ⟨rfl, hb0.out.trans (hb4.mono (by omega))⟩
  case true =>
  have NW := Lib.hid (fun u (h : Below (w.heap.size + 1) V u) => aonew_ok ax ay cx cy X Y tau arm sh u (hx.below (W u h)) (hy.below (W u h)) hX hY hw)
  obtain ⟨hg, ⟨ta1, ta2⟩, -⟩ := agB_at hw
  obtain ⟨m1, m2, m3, _⟩ := rgtB_at hg
  have AS := Lib.hid (fun b f g1 c1 g2 c2 y kn x e x2 e2 r s u h hs y1 y2 => astep_any b f g1 c1 g2 c2 X Y tau arm sh y kn x e x2 e2 r s u h hX hY hs hw y1 y2)
  have TR0 := fun x r s u (hb : Below w.heap.size w u) hs => atrue_any ax ay cx cy X Y tau arm sh x r s u (hx.below hb) (hy.below hb) hX hY hs
  rw [hw] at TR0
  simp only [if_true] at TR0
  replace TR0 := Lib.hid TR0
  have AM := Lib.hid (fun b f g1 c1 g2 c2 y kn u h => aalpha_any b f g1 c1 g2 c2 X Y tau arm sh y kn u h)
  have RB := Lib.hid (fun (u : World) g1 g2 c1 c2 b f (h : Met b f g1 c1 g2 c2 X Y tau arm sh 0 false u) => show b < u.heap.size ∧ f < u.heap.size ∧ g1 < u.heap.size ∧ g2 < u.heap.size from by
    obtain ⟨_, _, ea, l1, -⟩ := h.rx.at (show 0 < X.length by omega)
    injection ea with ea
    injection ea with ea _
    obtain ⟨_, _, eb, l2, -⟩ := h.ry.at (show 0 < Y.length by omega)
    injection eb with eb
    injection eb with eb _
    exact ⟨h.m.lt, h.l.lt, by omega, by omega⟩)
  have HT := Lib.hid (fun u (hb : Below w.heap.size w u) i (hi : i < rows.length) => look_at (ht.below hb) hi)
  replace W := Lib.hid W
  clear hw hx hy hX hY ht hl hL hg m1 m2 m3
  replace hb0 := Lib.hid hb0
  replace hz := Lib.hid hz
  replace hcs := Lib.hid hcs
  replace eV := Lib.hid eV
  go_enter Try.func12, Try.ntmps12
  go_wp2_with fail
  rw [← eV.out]
  obtain ⟨k0, k1, k2, k3, k4⟩ := hcs.out _ (Below.refl _ _)
  go_wp2_with fail
  refine (GR.out _).mono ?_
  rintro e w1 ⟨rfl, hb1⟩
  have hb1 := (Below.refl (w.heap.size + 1) V).trans (hb1.mono (Nat.le_of_eq hz.out.symm))
  obtain ⟨k0, k1, k2, k3, k4⟩ := hcs.out _ hb1
  go_wp2_with fail
  refine (NW.out _ hb1).mono ?_
  rintro e w2 ⟨b, f, h1, q1, h2, q2, rfl, hM, -, hbf, hb2⟩
  have hb2 := hb1.trans (hb2.mono (by have := hb1.size; have := hz.out; omega))
  obtain ⟨k0, k1, k2, k3, k4⟩ := hcs.out _ hb2
  obtain ⟨lb, lf, l1, l2⟩ := RB.out _ _ _ _ _ _ _ hM
  have hbf1 : w.heap.size + 1 ≤ f := by have := hb1.size; have := hz.out; omega
  replace hM := Lib.hid hM
  clear hb1 hbf
  go_wp2_with fail
  refine (NW.out _ hb2).mono ?_
  rintro e w3 ⟨b2, f2, h3, q3, h4, q4, rfl, hN, ⟨n1, n2, n3⟩, n4, hb3⟩
  replace hM := Lib.hid (hM.out.bel hb3)
  have hb3 := hb2.trans (hb3.mono (by have := hb2.size; have := hz.out; omega))
  obtain ⟨k0, k1, k2, k3, k4⟩ := hcs.out _ hb3
  have hbf2 : w.heap.size + 1 ≤ f2 := by omega
  have x1 : b2 ≠ f := by omega
  have x2 : f2 ≠ f := by omega
  have x3 : h3 ≠ f := by omega
  have x4 : h4 ≠ f := by omega
  have x5 : b ≠ f2 := by omega
  have x6 : f ≠ f2 := by omega
  have x7 : h1 ≠ f2 := by omega
  have x8 : h2 ≠ f2 := by omega
  replace hN := Lib.hid hN
  clear hb2 lb lf l1 l2 n1 n2 n3 n4
  replace hb3 := Lib.hid hb3
  go_wp2
  go_loopw [9] (fun i v => ∃ (j : Nat) (y : Int) (kn : Bool), j ≤ rows.length ∧ i = .int .i64 (j : Int) ∧ -549755813887 ≤ y ∧ y ≤ 549755813887 ∧ Hid (Met b f h1 q1 h2 q2 X Y tau arm sh y kn v) ∧ Hid (Met b2 f2 h3 q3 h4 q4 X Y tau arm sh y kn v) ∧ Hid (Below (w.heap.size + 1) V v)) (fun i _ => rows.length - (intOf i).toNat)
  case atStart => exact ⟨0, 0, false, by omega, rfl, by omega, by omega, hM, hN, hb3⟩
  case round =>
    clear hM hN hb3 k0 k1 k2 k3 k4
    obtain ⟨j, y, kn, hj, rfl, y1, y2, hM, hN, hb⟩ := hrel
    by_cases hlt : j < rows.length
    · obtain ⟨tb, off, x, e1, x2', e2, r, s, rfl, htb, hs, hc⟩ := HT.out _ (W.out _ hb.out) j hlt
      obtain ⟨t0, t1, t2, t3, t4, t5⟩ := hc _ (Below.refl _ _)
      have hlt1 : (j : Int) < (rows.length : Int) := by omega
      clear hc
      go_upto_region 11 with (fail)
      have hr0 := Held.new wr [.int .i64 x, .int .i64 e1, .int .i64 x2', .int .i64 e2, .int .i64 r, .int .i64 s] 75
      obtain ⟨V3, eV3, hbr, hr⟩ : ∃ V3, V3 = wr.alloc (.cells #[.int .i64 x, .int .i64 e1, .int .i64 x2', .int .i64 e2, .int .i64 r, .int .i64 s] 75) ∧ Below wr.heap.size wr V3 ∧ Held wr.heap.size [.int .i64 x, .int .i64 e1, .int .i64 x2', .int .i64 e2, .int .i64 r, .int .i64 s] V3 := ⟨_, rfl, (Below.refl _ _).alloc (Nat.le_refl _) _, hr0⟩
      rw [← eV3]
      replace eV3 := Lib.hid eV3
      have ef : wr.heap.size ≠ f := by have := hM.out.l.lt; omega
      have hM3 := Lib.hid (hM.out.bel hbr)
      have hN3 := Lib.hid (hN.out.bel hbr)
      have hb3 := hb.out.trans (hbr.mono (by have := hb.out.size; have := hz.out; omega))
      obtain ⟨k0, k1, k2, k3, k4⟩ := hcs.out _ hb3
      generalize wr.heap.size = rb at *
      obtain ⟨z0, g0⟩ := hr.one 0 rfl
      obtain ⟨z1, g1⟩ := hr.one 1 rfl
      obtain ⟨z2, g2⟩ := hr.one 2 rfl
      obtain ⟨z3, g3⟩ := hr.one 3 rfl
      obtain ⟨z4, g4⟩ := hr.one 4 rfl
      obtain ⟨z5, g5⟩ := hr.one 5 rfl
      clear hbr hr0 t0 t1 t2 t3 t4 t5 hM hN hb g0 g1 g2 g3 g4 g5
      replace hr := Lib.hid hr
      have A1 := fun u h => AS.out b f h1 q1 h2 q2 y kn x e1 x2' e2 r s u h hs y1 y2
      have A2 := fun u h => AS.out b2 f2 h3 q3 h4 q4 y kn x2' e2 x e1 r s u h hs y1 y2
      have TP := fun u h => TR0.out x r s u h hs
      have TQ := fun u h => TR0.out x2' r s u h hs
      have pb : -90000 ≤ trV X Y arm x r s ∧ trV X Y arm x r s ≤ 90000 := clA_bd _
      have qb : -90000 ≤ trV X Y arm x2' r s ∧ trV X Y arm x2' r s ≤ 90000 := clA_bd _
      generalize trV X Y arm x r s = p at *
      generalize trV X Y arm x2' r s = q at *
      replace TP := Lib.hid TP
      replace TQ := Lib.hid TQ
      have AI := apt_in pb.1 pb.2 qb.1 qb.2
      have hw1 : IntKind.i64.wrap (p - q) = p - q := IntWalk.i64_in _ ⟨by omega, by omega⟩
      have hw2 : IntKind.i64.wrap (q - p) = q - p := IntWalk.i64_in _ ⟨by omega, by omega⟩
      have yb := fun n o => stY_bd (n := n) (o := o) (sh := sh) (kn := kn) y1 y2
      replace yb := Lib.hid yb
      replace A1 := Lib.hid A1
      replace A2 := Lib.hid A2
      replace AI := Lib.hid AI
      clear pb qb
      go_wp2_with fail
      refine (TP.out _ (W.out _ hb3)).mono ?_
      rintro e w4 ⟨rfl, hb4⟩
      replace hM3 := Lib.hid (hM3.out.bel hb4)
      replace hN3 := Lib.hid (hN3.out.bel hb4)
      have hr4 := hr.out.bel hb4
      replace hb4 := hb3.trans (hb4.mono (by have := hb3.size; have := hz.out; omega))
      clear hb3 hr z0 z1 z2 z3 z4 z5
      obtain ⟨k0, k1, k2, k3, k4⟩ := hcs.out _ hb4
      obtain ⟨z0, g0⟩ := hr4.one 0 rfl
      obtain ⟨z1, g1⟩ := hr4.one 1 rfl
      obtain ⟨z2, g2⟩ := hr4.one 2 rfl
      obtain ⟨z3, g3⟩ := hr4.one 3 rfl
      obtain ⟨z4, g4⟩ := hr4.one 4 rfl
      obtain ⟨z5, g5⟩ := hr4.one 5 rfl
      clear g0 g1 g2 g3 g4 g5
      go_wp2_with fail
      refine (TQ.out _ (W.out _ hb4)).mono ?_
      rintro e w5 ⟨rfl, hb5⟩
      replace hM3 := Lib.hid (hM3.out.bel hb5)
      replace hN3 := Lib.hid (hN3.out.bel hb5)
      have hr5 := hr4.bel hb5
      replace hb5 := hb4.trans (hb5.mono (by have := hb4.size; have := hz.out; omega))
      clear hb4 hr4 z0 z1 z2 z3 z4 z5
      obtain ⟨k0, k1, k2, k3, k4⟩ := hcs.out _ hb5
      obtain ⟨z0, g0⟩ := hr5.one 0 rfl
      obtain ⟨z1, g1⟩ := hr5.one 1 rfl
      obtain ⟨z2, g2⟩ := hr5.one 2 rfl
      obtain ⟨z3, g3⟩ := hr5.one 3 rfl
      obtain ⟨z4, g4⟩ := hr5.one 4 rfl
      obtain ⟨z5, g5⟩ := hr5.one 5 rfl
      clear g0 g1 g2 g3 g4 g5
      replace hr5 := Lib.hid hr5
      go_upto_region 13 with (fail)
      clear TP TQ TR0
      by_cases he1 : e1 = 0
      · by_cases he2 : e2 = 0
        · rcases (show tau < p - q ∨ (p - q ≤ tau ∧ tau < q - p) ∨ (p - q ≤ tau ∧ q - p ≤ tau) by omega) with h | ⟨h, h'⟩ | ⟨h, h'⟩
          · have ze1 : (e1 == 0) = true := by simp [he1]
            have ze2 : (e2 == 0) = true := by simp [he2]
            clear A1 A2 AI yb he1 he2
            go_wp2_with fail
            refine (LV.out _).mono ?_
            rintro e w6 ⟨rfl, hb6⟩
            have hb6 := (W.out _ hb5).trans (hb6.mono (W.out _ hb5).size)
            go_wp2
            go_ret
            exact ⟨rfl, hb6⟩
          · have ze1 : (e1 == 0) = true := by simp [he1]
            have ze2 : (e2 == 0) = true := by simp [he2]
            clear A1 A2 AI yb he1 he2
            go_wp2_with fail
            refine (LV.out _).mono ?_
            rintro e w6 ⟨rfl, hb6⟩
            have hb6 := (W.out _ hb5).trans (hb6.mono (W.out _ hb5).size)
            go_wp2
            go_ret
            exact ⟨rfl, hb6⟩
          · have ze1 : (e1 == 0) = true := by simp [he1]
            have ze2 : (e2 == 0) = true := by simp [he2]
            have a1 : ¬ tau < apt p q := by rw [AI.out.1]; by_cases e : p < q <;> simp [e] <;> omega
            have a2 : ¬ tau < apt q p := by rw [AI.out.2.1]; exact a1
            have a3 := AI.out.2.2
            have E : chO p e1 q e2 tau y kn = 0 ∧ chO q e2 p e1 tau y kn = 0 ∧ chV q e2 p e1 tau y kn = chV p e1 q e2 tau y kn := by unfold chO chV vrd; simp [he1, he2, a1, a2, a3]
            have S1 := A1.out
            have S2 := A2.out
            rw [E.1] at S1
            rw [E.2.1, E.2.2] at S2
            have ybb := yb.out (chV p e1 q e2 tau y kn) 0
            generalize stY (chV p e1 q e2 tau y kn) 0 sh y kn = y' at *
            generalize stK 0 kn = kn' at *
            replace S1 := Lib.hid S1
            replace S2 := Lib.hid S2
            replace ybb := Lib.hid ybb
            have d1 : (y' != y') = false := by simp
            clear E A1 A2 AI yb k0 k1 k3 k4 he1 he2
            go_wp2_with fail
            refine (S1.out _ hM3.out).mono ?_
            rintro e w7 ⟨rfl, hM7, o7⟩
            have hN7 := Lib.hid (hN3.out.off o7 x1 x2 x3 x4)
            have hr7 := hr5.out.beside o7 ef
            have hb7 := Lib.hid (hb5.trans (o7.below hbf1 (by have := hb5.size; have := hz.out; omega)))
            replace hM7 := Lib.hid hM7
            clear o7 hM3 hN3 hb5 k2 z0 z1 z2 z3 z4 z5 hr5
            obtain ⟨z0, g0⟩ := hr7.one 0 rfl
            obtain ⟨z1, g1⟩ := hr7.one 1 rfl
            obtain ⟨z2, g2⟩ := hr7.one 2 rfl
            obtain ⟨z3, g3⟩ := hr7.one 3 rfl
            obtain ⟨z4, g4⟩ := hr7.one 4 rfl
            obtain ⟨z5, g5⟩ := hr7.one 5 rfl
            clear hr7 g0 g1 g2 g3 g4 g5
            go_wp2_with fail
            refine (S2.out _ hN7.out).mono ?_
            rintro e w8 ⟨rfl, hN8, o8⟩
            have hM8 := Lib.hid (hM7.out.off o8 x5 x6 x7 x8)
            have hb8 := Lib.hid (hb7.out.trans (o8.below hbf2 (by have := hb7.out.size; have := hz.out; omega)))
            replace hN8 := Lib.hid hN8
            clear o8 hM7 hN7 hb7 z0 z1 z2 z3 z4 z5
            go_wp2
            go_roundw
            case rel => exact ⟨j + 1, y', kn', by omega, by go_num, ybb.out.1, ybb.out.2, hM8, hN8, hb8⟩
            case measure => simp [intOf]; omega
        · have ze1 : (e1 == 0) = true := by simp [he1]
          have ze2 : (e2 == 0) = false := by simp [he2]
          have E : chO p e1 q e2 tau y kn = 1 ∧ chO q e2 p e1 tau y kn = 2 ∧ chV q e2 p e1 tau y kn = chV p e1 q e2 tau y kn := by unfold chO chV vrd; simp [he1, he2]
          have S1 := A1.out
          have S2 := A2.out
          rw [E.1] at S1
          rw [E.2.1, E.2.2] at S2
          rw [show stY (chV p e1 q e2 tau y kn) 2 sh y kn = stY (chV p e1 q e2 tau y kn) 1 sh y kn by simp [stY], show stK 2 kn = stK 1 kn by simp [stK]] at S2
          have ybb := yb.out (chV p e1 q e2 tau y kn) 1
          generalize stY (chV p e1 q e2 tau y kn) 1 sh y kn = y' at *
          generalize stK 1 kn = kn' at *
          replace S1 := Lib.hid S1
          replace S2 := Lib.hid S2
          replace ybb := Lib.hid ybb
          have d1 : (y' != y') = false := by simp
          clear E A1 A2 AI yb k0 k1 k3 k4 he1 he2
          go_wp2_with fail
          refine (S1.out _ hM3.out).mono ?_
          rintro e w7 ⟨rfl, hM7, o7⟩
          have hN7 := Lib.hid (hN3.out.off o7 x1 x2 x3 x4)
          have hr7 := hr5.out.beside o7 ef
          have hb7 := Lib.hid (hb5.trans (o7.below hbf1 (by have := hb5.size; have := hz.out; omega)))
          replace hM7 := Lib.hid hM7
          clear o7 hM3 hN3 hb5 k2 z0 z1 z2 z3 z4 z5 hr5
          obtain ⟨z0, g0⟩ := hr7.one 0 rfl
          obtain ⟨z1, g1⟩ := hr7.one 1 rfl
          obtain ⟨z2, g2⟩ := hr7.one 2 rfl
          obtain ⟨z3, g3⟩ := hr7.one 3 rfl
          obtain ⟨z4, g4⟩ := hr7.one 4 rfl
          obtain ⟨z5, g5⟩ := hr7.one 5 rfl
          clear hr7 g0 g1 g2 g3 g4 g5
          go_wp2_with fail
          refine (S2.out _ hN7.out).mono ?_
          rintro e w8 ⟨rfl, hN8, o8⟩
          have hM8 := Lib.hid (hM7.out.off o8 x5 x6 x7 x8)
          have hb8 := Lib.hid (hb7.out.trans (o8.below hbf2 (by have := hb7.out.size; have := hz.out; omega)))
          replace hN8 := Lib.hid hN8
          clear o8 hM7 hN7 hb7 z0 z1 z2 z3 z4 z5
          go_wp2
          go_roundw
          case rel => exact ⟨j + 1, y', kn', by omega, by go_num, ybb.out.1, ybb.out.2, hM8, hN8, hb8⟩
          case measure => simp [intOf]; omega
      · by_cases he2 : e2 = 0
        · have ze1 : (e1 == 0) = false := by simp [he1]
          have ze2 : (e2 == 0) = true := by simp [he2]
          have E : chO p e1 q e2 tau y kn = 2 ∧ chO q e2 p e1 tau y kn = 1 ∧ chV q e2 p e1 tau y kn = chV p e1 q e2 tau y kn := by unfold chO chV vrd; simp [he1, he2]
          have S1 := A1.out
          have S2 := A2.out
          rw [E.1] at S1
          rw [E.2.1, E.2.2] at S2
          rw [show stY (chV p e1 q e2 tau y kn) 1 sh y kn = stY (chV p e1 q e2 tau y kn) 2 sh y kn by simp [stY], show stK 1 kn = stK 2 kn by simp [stK]] at S2
          have ybb := yb.out (chV p e1 q e2 tau y kn) 2
          generalize stY (chV p e1 q e2 tau y kn) 2 sh y kn = y' at *
          generalize stK 2 kn = kn' at *
          replace S1 := Lib.hid S1
          replace S2 := Lib.hid S2
          replace ybb := Lib.hid ybb
          have d1 : (y' != y') = false := by simp
          clear E A1 A2 AI yb k0 k1 k3 k4 he1 he2
          go_wp2_with fail
          refine (S1.out _ hM3.out).mono ?_
          rintro e w7 ⟨rfl, hM7, o7⟩
          have hN7 := Lib.hid (hN3.out.off o7 x1 x2 x3 x4)
          have hr7 := hr5.out.beside o7 ef
          have hb7 := Lib.hid (hb5.trans (o7.below hbf1 (by have := hb5.size; have := hz.out; omega)))
          replace hM7 := Lib.hid hM7
          clear o7 hM3 hN3 hb5 k2 z0 z1 z2 z3 z4 z5 hr5
          obtain ⟨z0, g0⟩ := hr7.one 0 rfl
          obtain ⟨z1, g1⟩ := hr7.one 1 rfl
          obtain ⟨z2, g2⟩ := hr7.one 2 rfl
          obtain ⟨z3, g3⟩ := hr7.one 3 rfl
          obtain ⟨z4, g4⟩ := hr7.one 4 rfl
          obtain ⟨z5, g5⟩ := hr7.one 5 rfl
          clear hr7 g0 g1 g2 g3 g4 g5
          go_wp2_with fail
          refine (S2.out _ hN7.out).mono ?_
          rintro e w8 ⟨rfl, hN8, o8⟩
          have hM8 := Lib.hid (hM7.out.off o8 x5 x6 x7 x8)
          have hb8 := Lib.hid (hb7.out.trans (o8.below hbf2 (by have := hb7.out.size; have := hz.out; omega)))
          replace hN8 := Lib.hid hN8
          clear o8 hM7 hN7 hb7 z0 z1 z2 z3 z4 z5
          go_wp2
          go_roundw
          case rel => exact ⟨j + 1, y', kn', by omega, by go_num, ybb.out.1, ybb.out.2, hM8, hN8, hb8⟩
          case measure => simp [intOf]; omega
        · have ze1 : (e1 == 0) = false := by simp [he1]
          have ze2 : (e2 == 0) = false := by simp [he2]
          have E : chO p e1 q e2 tau y kn = 3 ∧ chO q e2 p e1 tau y kn = 3 ∧ chV q e2 p e1 tau y kn = chV p e1 q e2 tau y kn := by unfold chO chV vrd; simp [he1, he2]
          have S1 := A1.out
          have S2 := A2.out
          rw [E.1] at S1
          rw [E.2.1, E.2.2] at S2
          have ybb := yb.out (chV p e1 q e2 tau y kn) 3
          generalize stY (chV p e1 q e2 tau y kn) 3 sh y kn = y' at *
          generalize stK 3 kn = kn' at *
          replace S1 := Lib.hid S1
          replace S2 := Lib.hid S2
          replace ybb := Lib.hid ybb
          have d1 : (y' != y') = false := by simp
          clear E A1 A2 AI yb k0 k1 k3 k4 he1 he2
          go_wp2_with fail
          refine (S1.out _ hM3.out).mono ?_
          rintro e w7 ⟨rfl, hM7, o7⟩
          have hN7 := Lib.hid (hN3.out.off o7 x1 x2 x3 x4)
          have hr7 := hr5.out.beside o7 ef
          have hb7 := Lib.hid (hb5.trans (o7.below hbf1 (by have := hb5.size; have := hz.out; omega)))
          replace hM7 := Lib.hid hM7
          clear o7 hM3 hN3 hb5 k2 z0 z1 z2 z3 z4 z5 hr5
          obtain ⟨z0, g0⟩ := hr7.one 0 rfl
          obtain ⟨z1, g1⟩ := hr7.one 1 rfl
          obtain ⟨z2, g2⟩ := hr7.one 2 rfl
          obtain ⟨z3, g3⟩ := hr7.one 3 rfl
          obtain ⟨z4, g4⟩ := hr7.one 4 rfl
          obtain ⟨z5, g5⟩ := hr7.one 5 rfl
          clear hr7 g0 g1 g2 g3 g4 g5
          go_wp2_with fail
          refine (S2.out _ hN7.out).mono ?_
          rintro e w8 ⟨rfl, hN8, o8⟩
          have hM8 := Lib.hid (hM7.out.off o8 x5 x6 x7 x8)
          have hb8 := Lib.hid (hb7.out.trans (o8.below hbf2 (by have := hb7.out.size; have := hz.out; omega)))
          replace hN8 := Lib.hid hN8
          clear o8 hM7 hN7 hb7 z0 z1 z2 z3 z4 z5
          go_wp2
          go_roundw
          case rel => exact ⟨j + 1, y', kn', by omega, by go_num, ybb.out.1, ybb.out.2, hM8, hN8, hb8⟩
          case measure => simp [intOf]; omega
    · have hge : (rows.length : Int) ≤ (j : Int) := by omega
      go_wp2_with fail
      refine (LV.out _).mono ?_
      rintro e w6 ⟨rfl, hb6⟩
      have hb6 := (W.out _ hb.out).trans (hb6.mono (W.out _ hb.out).size)
      go_wp2
      go_ret
      exact ⟨rfl, hb6⟩
end Go.Proofs.Ytnfbfggkbpobiaa
