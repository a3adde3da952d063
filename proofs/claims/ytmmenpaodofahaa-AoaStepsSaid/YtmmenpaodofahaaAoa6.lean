/- The law AoaSteps, walked. -/
import Derived.Test.YtmmenpaodofahaaAoa5
import Derived.Test.YtmmenpaodofahaaAoa4
import Derived.Deep.Cut
namespace Go.Proofs.Ytmmenpaodofahaa
open Go.ChangeShapes Go.WideShapes Go.ChangeAt Go.RowKit
set_option linter.unusedVariables false
set_option linter.unusedSimpArgs false
theorem ast_box (w : World) (ax ay : Option Addr) (cx cy : Nat) (X Y : List Int) (tau arm sh : Int) : ∃ V, V = (w.alloc (.cells #[.slice ax X.length cx, .slice ay Y.length cy, .int .i64 tau, .int .i64 arm, .int .i64 sh] 59)) ∧ Below w.heap.size w V ∧ V.heap.size = w.heap.size + 1 ∧ ∀ u, Below (w.heap.size + 1) V u → u.cell? ⟨w.heap.size, 0, none⟩ = some (.slice ax X.length cx) ∧ u.cell? ⟨w.heap.size, 1, none⟩ = some (.slice ay Y.length cy) ∧ u.cell? ⟨w.heap.size, 2, none⟩ = some (.int .i64 tau) ∧ u.cell? ⟨w.heap.size, 3, none⟩ = some (.int .i64 arm) ∧ u.cell? ⟨w.heap.size, 4, none⟩ = some (.int .i64 sh) :=
  ⟨_, rfl, (by repeat (first | exact Below.refl _ _ | assumption | apply Below.drew | apply below_drewN | (refine Below.alloc ?_ (by first | exact Nat.le_refl _ | omega | (simp <;> omega)) _) | (refine Below.setCell ?_ (by first | exact Nat.le_refl _ | omega | (simp <;> omega)) _))), by simp, fun u hu => ⟨(bc hu (by omega)).trans (by go_simp), (bc hu (by omega)).trans (by go_simp), (bc hu (by omega)).trans (by go_simp), (bc hu (by omega)).trans (by go_simp), (bc hu (by omega)).trans (by go_simp)⟩⟩

theorem look_at {w : World} {t : Option Addr} {rows : List (List Value)} (h : Tab [some .i64, some .i64, some .i64, some .i64, some .i64, some .i64] w t rows) {i : Nat} (hi : i < rows.length) :
    ∃ b off a c d e r s, t = some ⟨b, off, none⟩ ∧ b < w.heap.size ∧ s ≤ 9223372036854775807 ∧ ∀ v, Below w.heap.size w v → v.cell? ⟨b, off + i * 6, none⟩ = some (.int .i64 a) ∧ v.cell? ⟨b, off + i * 6 + 1, none⟩ = some (.int .i64 c) ∧ v.cell? ⟨b, off + i * 6 + 2, none⟩ = some (.int .i64 d) ∧ v.cell? ⟨b, off + i * 6 + 3, none⟩ = some (.int .i64 e) ∧ v.cell? ⟨b, off + i * 6 + 4, none⟩ = some (.int .i64 r) ∧ v.cell? ⟨b, off + i * 6 + 5, none⟩ = some (.int .i64 s) := by
  obtain ⟨tb, off, r, rfl, htb, hr, hfl, hcell⟩ := h.at hi
  obtain ⟨x0, _, rfl, w0, hfl⟩ := hfl
  obtain ⟨x1, _, rfl, w1, hfl⟩ := hfl
  obtain ⟨x2, _, rfl, w2, hfl⟩ := hfl
  obtain ⟨x3, _, rfl, w3, hfl⟩ := hfl
  obtain ⟨x4, _, rfl, w4, hfl⟩ := hfl
  obtain ⟨x5, _, rfl, w5, hfl⟩ := hfl
  have hfl : _ = _ := hfl
  subst hfl
  exact ⟨tb, off, x0, x1, x2, x3, x4, x5, rfl, htb, (i64_bd w5).2, fun v hv => ⟨(bc hv htb).trans (hcell 0 _ rfl), (bc hv htb).trans (hcell 1 _ rfl), (bc hv htb).trans (hcell 2 _ rfl), (bc hv htb).trans (hcell 3 _ rfl), (bc hv htb).trans (hcell 4 _ rfl), (bc hv htb).trans (hcell 5 _ rfl)⟩⟩
theorem Met.off {b f g1 c1 g2 c2 k : Nat} {X Y : List Int} {tau arm sh y : Int} {kn : Bool} {w w' : World} (h : Met b f g1 c1 g2 c2 X Y tau arm sh y kn w) (j : Beside k w w') (h1 : b ≠ k) (h2 : f ≠ k) (h3 : g1 ≠ k) (h4 : g2 ≠ k) : Met b f g1 c1 g2 c2 X Y tau arm sh y kn w' :=
  ⟨h.m.beside j h1, h.l.beside j h2, h.rx.besides j h3, h.ry.besides j h4, h.nb, h.n1, h.n2⟩
theorem stY_bd {n o sh y : Int} {kn : Bool} (y1 : -549755813887 ≤ y) (y2 : y ≤ 549755813887) : -549755813887 ≤ stY n o sh y kn ∧ stY n o sh y kn ≤ 549755813887 := by
  unfold stY
  have c := clq_bd n
  by_cases h : o = 3
  · rw [if_pos h]; exact ⟨y1, y2⟩
  · rw [if_neg h]
    cases kn
    · simp only [Bool.false_eq_true, if_false]
      exact lgV_bd c.1 c.2 c.1 c.2
    · simp only [if_true]
      exact lgV_bd y1 y2 c.1 c.2
set_option maxHeartbeats 2000000 in
theorem areset_any (b f g1 c1 g2 c2 : Nat) (X Y : List Int) (tau arm sh y : Int) (kn : Bool) (w : World) (h : Met b f g1 c1 g2 c2 X Y tau arm sh y kn w) : Calls Try.prog 49 #[.pointer (some ⟨b, 0, none⟩)] w fun e w' => e = .returned (.tuple #[]) ∧ Met b f g1 c1 g2 c2 X Y tau arm sh 0 false w' ∧ Beside f w w' := by
  obtain ⟨-, -, -, -, -, k5⟩ := h.cells
  have VA := Lib.hid (fun u hl => lgreset_any f (sh := sh) (y := y) (kn := kn) u hl)
  have HM := Lib.hid h
  clear h
  go_enter Try.func49, Try.ntmps49
  go_wp2_with fail
  refine (VA.out _ HM.out.l).mono ?_
  rintro e w1 ⟨rfl, hl, hb1⟩
  have hM := Lib.hid (HM.out.beside hb1 hl)
  have hB := Lib.hid hb1
  clear hb1 hl
  go_wp2
  go_end0
  exact ⟨rfl, hM.out, hB.out⟩
set_option maxRecDepth 100000 in
set_option maxHeartbeats 8000000 in
theorem law_AoaSteps (ax ay : Option Addr) (cx cy : Nat) (X Y : List Int) (tau arm sh : Int) (t : Option Addr) (cap : Nat) (rows : List (List Value)) (w : World) (hx : RowIs .i64 w ax X) (hy : RowIs .i64 w ay Y) (ht : Tab [some .i64, some .i64, some .i64, some .i64, some .i64, some .i64] w t rows) (hl : rows.length ≤ maxLen) :
    Calls Try.prog 12 #[.agg #[.slice ax X.length cx, .slice ay Y.length cy, .int .i64 tau, .int .i64 arm, .int .i64 sh], .slice t rows.length cap] w fun e w' => e = .returned (.bool true) ∧ Below w.heap.size w w' := by
  unfold maxLen at hl
  have LV := Lib.hid (fun u => lives39 u)
  have GR := fun u => agreat_any ax ay cx cy X Y u
  obtain ⟨V, eV, hb0, hz, hcs⟩ := ast_box w ax ay cx cy X Y tau arm sh
  have W := fun u (h : Below (w.heap.size + 1) V u) => show Below w.heap.size w u from hb0.trans (h.mono (by omega))
  cases hgr : (decide (300 < X.length) || decide (300 < Y.length))
  case true =>
    rw [hgr] at GR
    replace GR := Lib.hid GR
    clear hgr hx hy ht hl W
    replace hb0 := Lib.hid hb0
    replace hz := Lib.hid hz
    replace hcs := Lib.hid hcs
    replace eV := Lib.hid eV
    go_enter Try.func12, Try.ntmps12
    go_wp2_with fail
    rw [← eV.out]
    obtain ⟨k0, k1, k2, k3, k4⟩ := hcs.out _ (Below.refl _ _)
    go_wp2_with fail
    refine (GR.out _).mono ?_
    rintro e w1 ⟨rfl, hb1⟩
    have hb1 := (Below.refl (w.heap.size + 1) V).trans (hb1.mono (Nat.le_of_eq hz.out.symm))
    obtain ⟨k0, k1, k2, k3, k4⟩ := hcs.out _ hb1
    go_wp2_with fail
    refine (LV.out _).mono ?_
    rintro e w2 ⟨rfl, hb2⟩
    have hb2 := hb1.trans (hb2.mono (by have := hb1.size; have := hz.out; omega))
    clear hb1
    go_wp2
    go_ret
    exact ⟨rfl, hb0.out.trans (hb2.mono (by omega))⟩
  rw [hgr] at GR
  replace GR := Lib.hid GR
  have hX : X.length ≤ 300 := by simp at hgr; omega
  have hY : Y.length ≤ 300 := by simp at hgr; omega
  clear hgr
  by_cases hL : 60 < rows.length
  · have dl : (60 : Int) < (rows.length : Int) := by omega
    clear hx hy ht hl W hL hX hY
    replace hb0 := Lib.hid hb0
    replace hz := Lib.hid hz
    replace hcs := Lib.hid hcs
    replace eV := Lib.hid eV
    go_enter Try.func12, Try.ntmps12
    go_wp2_with fail
    rw [← eV.out]
    obtain ⟨k0, k1, k2, k3, k4⟩ := hcs.out _ (Below.refl _ _)
    go_wp2_with fail
    refine (GR.out _).mono ?_
    rintro e w1 ⟨rfl, hb1⟩
    have hb1 := (Below.refl (w.heap.size + 1) V).trans (hb1.mono (Nat.le_of_eq hz.out.symm))
    obtain ⟨k0, k1, k2, k3, k4⟩ := hcs.out _ hb1
    go_wp2_with fail
    refine (LV.out _).mono ?_
    rintro e w2 ⟨rfl, hb2⟩
    have hb2 := hb1.trans (hb2.mono (by have := hb1.size; have := hz.out; omega))
    clear hb1
    go_wp2
    go_ret
    exact ⟨rfl, hb0.out.trans (hb2.mono (by omega))⟩
  have dl : (rows.length : Int) ≤ 60 := by omega
  cases hw : agB X Y tau arm sh
  case false =>
    have NW := Lib.hid (fun u (h : Below (w.heap.size + 1) V u) => aonew_no ax ay cx cy X Y tau arm sh u (hx.below (W u h)) (hy.below (W u h)) hX hY hw)
    clear hw hx hy hX hY W ht hl hL
    replace hb0 := Lib.hid hb0
    replace hz := Lib.hid hz
    replace hcs := Lib.hid hcs
    replace eV := Lib.hid eV
    go_enter Try.func12, Try.ntmps12
    go_wp2_with fail
    rw [← eV.out]
    obtain ⟨k0, k1, k2, k3, k4⟩ := hcs.out _ (Below.refl _ _)
    go_wp2_with fail
    refine (GR.out _).mono ?_
    rintro e w1 ⟨rfl, hb1⟩
    have hb1 := (Below.refl (w.heap.size + 1) V).trans (hb1.mono (Nat.le_of_eq hz.out.symm))
    obtain ⟨k0, k1, k2, k3, k4⟩ := hcs.out _ hb1
    go_wp2_with fail
    refine (NW.out _ hb1).mono ?_
    rintro e w2 ⟨rfl, hb2⟩
    have hb2 := hb1.trans (hb2.mono (by have := hb1.size; have := hz.out; omega))
    clear hb1
    obtain ⟨k0, k1, k2, k3, k4⟩ := hcs.out _ hb2
    go_wp2_with fail
    refine (LV.out _).mono ?_
    rintro e w3 ⟨rfl, hb3⟩
    have hb3 := hb2.trans (hb3.mono (by have := hb2.size; have := hz.out; omega))
    clear hb2
    go_wp2
    go_ret
    exact ⟨rfl, hb0.out.trans (hb3.mono (by omega))⟩
  case true =>
  have NW := Lib.hid (fun u (h : Below (w.heap.size + 1) V u) => aonew_ok ax ay cx cy X Y tau arm sh u (hx.below (W u h)) (hy.below (W u h)) hX hY hw)
  obtain ⟨hg, -⟩ := agB_at hw
  obtain ⟨m1, m2, m3, _⟩ := rgtB_at hg
  have AS := Lib.hid (fun b f g1 c1 g2 c2 y kn x e x2 e2 r s u h hs y1 y2 => astep_any b f g1 c1 g2 c2 X Y tau arm sh y kn x e x2 e2 r s u h hX hY hs hw y1 y2)
  have RS := Lib.hid (fun k y kn x e x2 e2 r s u h (hb : Below w.heap.size w u) hs y1 y2 => rstep39 k ax ay cx cy X Y tau arm sh y kn x e x2 e2 r s u h (hx.below hb) (hy.below hb) hs hw y1 y2)
  have AM := Lib.hid (fun b f g1 c1 g2 c2 y kn u h => aalpha_any b f g1 c1 g2 c2 X Y tau arm sh y kn u h)
  have AR := Lib.hid (fun b f g1 c1 g2 c2 y kn u h => areset_any b f g1 c1 g2 c2 X Y tau arm sh y kn u h)
  have RB := Lib.hid (fun (u : World) g1 g2 c1 c2 b f (h : Met b f g1 c1 g2 c2 X Y tau arm sh 0 false u) => show b < u.heap.size ∧ f < u.heap.size ∧ g1 < u.heap.size ∧ g2 < u.heap.size from by
    obtain ⟨_, _, ea, l1, -⟩ := h.rx.at (show 0 < X.length by omega)
    injection ea with ea
    injection ea with ea _
    obtain ⟨_, _, eb, l2, -⟩ := h.ry.at (show 0 < Y.length by omega)
    injection eb with eb
    injection eb with eb _
    exact ⟨h.m.lt, h.l.lt, by omega, by omega⟩)
  have HT := Lib.hid (fun u (hb : Below w.heap.size w u) i (hi : i < rows.length) => look_at (ht.below hb) hi)
  replace W := Lib.hid W
  clear hw hx hy hX hY ht hl hL hg m1 m2 m3
  replace hb0 := Lib.hid hb0
  replace hz := Lib.hid hz
  replace hcs := Lib.hid hcs
  replace eV := Lib.hid eV
  go_enter Try.func12, Try.ntmps12
  go_wp2_with fail
  rw [← eV.out]
  obtain ⟨k0, k1, k2, k3, k4⟩ := hcs.out _ (Below.refl _ _)
  go_wp2_with fail
  refine (GR.out _).mono ?_
  rintro e w1 ⟨rfl, hb1⟩
  have hb1 := (Below.refl (w.heap.size + 1) V).trans (hb1.mono (Nat.le_of_eq hz.out.symm))
  obtain ⟨k0, k1, k2, k3, k4⟩ := hcs.out _ hb1
  go_wp2_with fail
  refine (NW.out _ hb1).mono ?_
  rintro e w2 ⟨b, f, h1, q1, h2, q2, rfl, hM, hbb, hbf, hb2⟩
  have hb2 := hb1.trans (hb2.mono (by have := hb1.size; have := hz.out; omega))
  obtain ⟨k0, k1, k2, k3, k4⟩ := hcs.out _ hb2
  have hbw := Lib.hid (W.out _ hb2)
  obtain ⟨lb, lf, l1, l2⟩ := RB.out _ _ _ _ _ _ _ hM
  replace hbf : w.heap.size ≤ f := by have := hb1.size; have := hz.out; omega
  replace hM := Lib.hid hM
  obtain ⟨k, ek⟩ : ∃ k, k = w2.heap.size := ⟨_, rfl⟩
  have nb : b ≠ k := by omega
  have nf : f ≠ k := by omega
  have n1 : h1 ≠ k := by omega
  have n2 : h2 ≠ k := by omega
  have hkw : w.heap.size ≤ k := by rw [ek]; exact hbw.out.size
  clear hb1 lb lf l1 l2 hbb
  go_upto_region 7 with (fail)
  have hk0 := Held.new w2 [.slice ax X.length cx, .slice ay Y.length cy, .int .i64 tau, .int .i64 arm, .int .i64 sh, .int .i64 0, .int .i64 0, .bool false] 82
  obtain ⟨V2, eV2⟩ : ∃ V2, V2 = w2.alloc (.cells #[.slice ax X.length cx, .slice ay Y.length cy, .int .i64 tau, .int .i64 arm, .int .i64 sh, .int .i64 0, .int .i64 0, .bool false] 82) := ⟨_, rfl⟩
  have k4 : V2.cell? ⟨w.heap.size, 4, none⟩ = some (.int .i64 sh) := by rw [eV2]; exact (((Below.refl _ _).alloc (Nat.le_refl _) _).cell (p := ⟨w.heap.size, 4, none⟩) (by have := hb2.size; have := hz.out; show w.heap.size < w2.heap.size; omega)).trans k4
  have hM2 := Lib.hid (hM.out.bel ((Below.refl w2.heap.size w2).alloc (Nat.le_refl _) (.cells #[.slice ax X.length cx, .slice ay Y.length cy, .int .i64 tau, .int .i64 arm, .int .i64 sh, .int .i64 0, .int .i64 0, .bool false] 82)))
  have hbv := Lib.hid (hbw.out.alloc hbw.out.size (.cells #[.slice ax X.length cx, .slice ay Y.length cy, .int .i64 tau, .int .i64 arm, .int .i64 sh, .int .i64 0, .int .i64 0, .bool false] 82))
  replace hk0 : Held k [.slice ax X.length cx, .slice ay Y.length cy, .int .i64 tau, .int .i64 arm, .int .i64 sh, .int .i64 0, .int .i64 0, .bool false] V2 := by rw [eV2, ek]; exact hk0
  rw [← eV2] at hM2 hbv
  rw [← eV2, ← ek]
  clear hM hbw k0 k1 k2 k3 hb2
  replace eV2 := Lib.hid eV2
  replace ek := Lib.hid ek
  obtain ⟨c5, f5⟩ := hk0.one 5 rfl
  have hk1 := Lib.hid (hk0.set 5 (.int .i64 sh) (by simp))
  have hB1 := Lib.hid (Beside.setCell (p := ⟨k, 5, none⟩) (Beside.of_below (Below.refl V2.heap.size V2)) (.int .i64 sh))
  clear hk0
  go_wp2
  go_loopw [8] (fun i v => ∃ (j : Nat) (y : Int) (kn : Bool), j ≤ rows.length ∧ i = .int .i64 (j : Int) ∧ -549755813887 ≤ y ∧ y ≤ 549755813887 ∧ Hid (Met b f h1 q1 h2 q2 X Y tau arm sh y kn v) ∧ Hid (Held k (mdC (.slice ax X.length cx) (.slice ay Y.length cy) (.int .i64 tau) (.int .i64 arm) (.int .i64 sh) sh y kn) v) ∧ Hid (Below w.heap.size w v)) (fun i _ => rows.length - (intOf i).toNat)
  case atStart => exact ⟨0, 0, false, by omega, rfl, by omega, by omega, Lib.hid (hM2.out.off hB1.out nb nf n1 n2), Lib.hid hk1.out, Lib.hid (hbv.out.trans (hB1.out.below hkw hbv.out.size))⟩
  case round =>
    clear c5 f5 k4 hk1 hB1 hM2 hbv
    obtain ⟨j, y, kn, hj, rfl, y1, y2, hM, hk, hb⟩ := hrel
    by_cases hlt : j < rows.length
    · obtain ⟨tb, off, x, e1, x2, e2, r, s, rfl, htb, hs, hc⟩ := HT.out _ hb.out j hlt
      obtain ⟨t0, t1, t2, t3, t4, t5⟩ := hc _ (Below.refl _ _)
      have hlt1 : (j : Int) < (rows.length : Int) := by omega
      clear hc
      go_upto_region 12 with (fail)
      have hr0 := Held.new wr [.int .i64 x, .int .i64 e1, .int .i64 x2, .int .i64 e2, .int .i64 r, .int .i64 s] 84
      obtain ⟨V3, eV3, hbr, hr⟩ : ∃ V3, V3 = wr.alloc (.cells #[.int .i64 x, .int .i64 e1, .int .i64 x2, .int .i64 e2, .int .i64 r, .int .i64 s] 84) ∧ Below wr.heap.size wr V3 ∧ Held wr.heap.size [.int .i64 x, .int .i64 e1, .int .i64 x2, .int .i64 e2, .int .i64 r, .int .i64 s] V3 := ⟨_, rfl, (Below.refl _ _).alloc (Nat.le_refl _) _, hr0⟩
      rw [← eV3]
      replace eV3 := Lib.hid eV3
      have ef : wr.heap.size ≠ f := by have := hM.out.l.lt; omega
      have ekk : wr.heap.size ≠ k := by have := hk.out.lt; omega
      have hM3 := Lib.hid (hM.out.bel hbr)
      have hk3 := Lib.hid (hk.out.bel hbr)
      have hb3 := Lib.hid (hb.out.trans (hbr.mono hb.out.size))
      generalize wr.heap.size = rb at *
      obtain ⟨z0, g0⟩ := hr.one 0 rfl
      obtain ⟨z1, g1⟩ := hr.one 1 rfl
      obtain ⟨z2, g2⟩ := hr.one 2 rfl
      obtain ⟨z3, g3⟩ := hr.one 3 rfl
      obtain ⟨z4, g4⟩ := hr.one 4 rfl
      obtain ⟨z5, g5⟩ := hr.one 5 rfl
      clear hbr hr0 t0 t1 t2 t3 t4 t5 hM hk hb
      replace hr := Lib.hid hr
      have AS1 := Lib.hid (fun u h => AS.out b f h1 q1 h2 q2 y kn x e1 x2 e2 r s u h hs y1 y2)
      have RS1 := Lib.hid (fun u h hb => RS.out k y kn x e1 x2 e2 r s u h hb hs y1 y2)
      have yb := stY_bd (n := chV (trV X Y arm x r s) e1 (trV X Y arm x2 r s) e2 tau y kn) (o := chO (trV X Y arm x r s) e1 (trV X Y arm x2 r s) e2 tau y kn) (sh := sh) (kn := kn) y1 y2
      generalize stY (chV (trV X Y arm x r s) e1 (trV X Y arm x2 r s) e2 tau y kn) (chO (trV X Y arm x r s) e1 (trV X Y arm x2 r s) e2 tau y kn) sh y kn = y' at *
      generalize chO (trV X Y arm x r s) e1 (trV X Y arm x2 r s) e2 tau y kn = oo at *
      generalize stK oo kn = kn' at *
      have d1 : (y' != y') = false := by simp
      have d2 : (oo != oo) = false := by simp
      have d3 : (kn' != kn') = false := by simp
      replace yb := Lib.hid yb
      go_wp2_with fail
      refine (AS1.out _ hM3.out).mono ?_
      rintro e w4 ⟨rfl, hM4, o4⟩
      replace hr := Lib.hid (hr.out.beside o4 ef)
      have hk4 := Lib.hid (hk3.out.beside o4 (Ne.symm nf))
      have hb4 := Lib.hid (hb3.out.trans (o4.below hbf hb3.out.size))
      replace hM4 := Lib.hid hM4
      clear o4 hM3 hk3 hb3 z0 z1 z2 z3 z4 z5 g0 g1 g2 g3 g4 g5
      have hr4 := hr.out
      obtain ⟨z0, g0⟩ := hr4.one 0 rfl
      obtain ⟨z1, g1⟩ := hr4.one 1 rfl
      obtain ⟨z2, g2⟩ := hr4.one 2 rfl
      obtain ⟨z3, g3⟩ := hr4.one 3 rfl
      obtain ⟨z4, g4⟩ := hr4.one 4 rfl
      obtain ⟨z5, g5⟩ := hr4.one 5 rfl
      clear hr4
      go_wp2_with fail
      refine (RS1.out _ hk4.out hb4.out).mono ?_
      rintro e w5 ⟨rfl, hk5, o5⟩
      have hM5 := Lib.hid (hM4.out.off o5 nb nf n1 n2)
      have hb5 := Lib.hid (hb4.out.trans (o5.below hkw hb4.out.size))
      replace hk5 := Lib.hid hk5
      clear o5 hM4 hk4 hb4 z0 z1 z2 z3 z4 z5 g0 g1 g2 g3 g4 g5 hr
      go_wp2_with fail
      refine (AM.out _ _ _ _ _ _ _ _ _ hM5.out).mono ?_
      rintro e w6 ⟨rfl, hb6⟩
      have hM6 := Lib.hid (hM5.out.bel hb6)
      have hk6 := hk5.out.bel hb6
      replace hb6 := Lib.hid (hb5.out.trans (hb6.mono hb5.out.size))
      obtain ⟨z0, g0⟩ := hk6.one 0 rfl
      obtain ⟨z1, g1⟩ := hk6.one 1 rfl
      obtain ⟨z2, g2⟩ := hk6.one 2 rfl
      obtain ⟨z3, g3⟩ := hk6.one 3 rfl
      obtain ⟨z4, g4⟩ := hk6.one 4 rfl
      obtain ⟨z5, g5⟩ := hk6.one 5 rfl
      obtain ⟨z6, g6⟩ := hk6.one 6 rfl
      obtain ⟨z7, g7⟩ := hk6.one 7 rfl
      replace hk6 := Lib.hid hk6
      clear hM5 hk5 hb5
      go_wp2
      go_roundw
      case rel => exact ⟨j + 1, y', kn', by omega, by go_num, yb.out.1, yb.out.2, hM6, hk6, hb6⟩
      case measure => simp [intOf]; omega
    · have hge : (rows.length : Int) ≤ (j : Int) := by omega
      go_wp2_with fail
      refine (AR.out _ _ _ _ _ _ _ _ _ hM.out).mono ?_
      rintro e w4 ⟨rfl, hM4, o4⟩
      have hb4 := hb.out.trans (o4.below hbf hb.out.size)
      replace hM4 := Lib.hid hM4
      clear o4 hb hk hM
      go_wp2_with fail
      refine (AM.out _ _ _ _ _ _ _ _ _ hM4.out).mono ?_
      rintro e w5 ⟨rfl, hb5⟩
      have hb5 := hb4.trans (hb5.mono hb4.size)
      clear hb4 hM4
      go_wp2_with fail
      refine (LV.out _).mono ?_
      rintro e w6 ⟨rfl, hb6⟩
      have hb6 := hb5.trans (hb6.mono hb5.size)
      go_wp2
      go_ret
      exact ⟨rfl, hb6⟩
end Go.Proofs.Ytmmenpaodofahaa
