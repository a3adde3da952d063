/- The law AoaBetween, walked. -/
import Derived.Test.YtnfbfggkbpobiaaAoa3
import Derived.Deep.Cut
namespace Go.Proofs.Ytnfbfggkbpobiaa
open Go.ChangeShapes Go.WideShapes Go.ChangeAt Go.RowKit
set_option linter.unusedVariables false
set_option linter.unusedSimpArgs false

theorem look_at {w : World} {t : Option Addr} {rows : List (List Value)} (h : Tab [some .i64, some .i64, some .i64, some .i64, some .i64, some .i64] w t rows) {i : Nat} (hi : i < rows.length) :
    ∃ b off a c d e r s, t = some ⟨b, off, none⟩ ∧ b < w.heap.size ∧ s ≤ 9223372036854775807 ∧ ∀ v, Below w.heap.size w v → v.cell? ⟨b, off + i * 6, none⟩ = some (.int .i64 a) ∧ v.cell? ⟨b, off + i * 6 + 1, none⟩ = some (.int .i64 c) ∧ v.cell? ⟨b, off + i * 6 + 2, none⟩ = some (.int .i64 d) ∧ v.cell? ⟨b, off + i * 6 + 3, none⟩ = some (.int .i64 e) ∧ v.cell? ⟨b, off + i * 6 + 4, none⟩ = some (.int .i64 r) ∧ v.cell? ⟨b, off + i * 6 + 5, none⟩ = some (.int .i64 s) := by
  obtain ⟨tb, off, r, rfl, htb, hr, hfl, hcell⟩ := h.at hi
  obtain ⟨x0, _, rfl, w0, hfl⟩ := hfl
  obtain ⟨x1, _, rfl, w1, hfl⟩ := hfl
  obtain ⟨x2, _, rfl, w2, hfl⟩ := hfl
  obtain ⟨x3, _, rfl, w3, hfl⟩ := hfl
  obtain ⟨x4, _, rfl, w4, hfl⟩ := hfl
  obtain ⟨x5, _, rfl, w5, hfl⟩ := hfl
  have hfl : _ = _ := hfl
  subst hfl
  exact ⟨tb, off, x0, x1, x2, x3, x4, x5, rfl, htb, (i64_bd w5).2, fun v hv => ⟨(bc hv htb).trans (hcell 0 _ rfl), (bc hv htb).trans (hcell 1 _ rfl), (bc hv htb).trans (hcell 2 _ rfl), (bc hv htb).trans (hcell 3 _ rfl), (bc hv htb).trans (hcell 4 _ rfl), (bc hv htb).trans (hcell 5 _ rfl)⟩⟩
theorem Met.off {b f g1 c1 g2 c2 k : Nat} {X Y : List Int} {tau arm sh y : Int} {kn : Bool} {w w' : World} (h : Met b f g1 c1 g2 c2 X Y tau arm sh y kn w) (j : Beside k w w') (h1 : b ≠ k) (h2 : f ≠ k) (h3 : g1 ≠ k) (h4 : g2 ≠ k) : Met b f g1 c1 g2 c2 X Y tau arm sh y kn w' :=
  ⟨h.m.beside j h1, h.l.beside j h2, h.rx.besides j h3, h.ry.besides j h4, h.nb, h.n1, h.n2⟩
theorem stY_bd {n o sh y : Int} {kn : Bool} (y1 : -549755813887 ≤ y) (y2 : y ≤ 549755813887) : -549755813887 ≤ stY n o sh y kn ∧ stY n o sh y kn ≤ 549755813887 := by
  unfold stY
  have c := clq_bd n
  by_cases h : o = 3
  · rw [if_pos h]; exact ⟨y1, y2⟩
  · rw [if_neg h]
    cases kn
    · simp only [Bool.false_eq_true, if_false]
      exact lgV_bd c.1 c.2 c.1 c.2
    · simp only [if_true]
      exact lgV_bd y1 y2 c.1 c.2

def loK (lo p q e1 e2 : Int) : Nat → Int
  | 0 => lo
  | 1 => if e1 = 0 then min lo p else lo
  | _ => if e2 = 0 then min (if e1 = 0 then min lo p else lo) q else if e1 = 0 then min lo p else lo
def hiK (hi p q e1 e2 : Int) : Nat → Int
  | 0 => hi
  | 1 => if e1 = 0 then max hi p else hi
  | _ => if e2 = 0 then max (if e1 = 0 then max hi p else hi) q else if e1 = 0 then max hi p else hi
theorem loK_le (lo hi p q e1 e2 : Int) : loK lo p q e1 e2 2 ≤ lo ∧ hi ≤ hiK hi p q e1 e2 2 ∧ (e1 = 0 → loK lo p q e1 e2 2 ≤ p ∧ p ≤ hiK hi p q e1 e2 2) ∧ (e2 = 0 → loK lo p q e1 e2 2 ≤ q ∧ q ≤ hiK hi p q e1 e2 2) := by
  unfold loK hiK
  by_cases h1 : e1 = 0 <;> by_cases h2 : e2 = 0 <;> simp [h1, h2] <;> omega
theorem clq_in {n : Int} (h1 : -90000 ≤ n) (h2 : n ≤ 90000) : clq n = n := by unfold clq; omega
/-- Which angle is chosen: it lies between what the good vanes tell. -/
theorem ch_in {p e1 q e2 tau y lo hi : Int} {kn : Bool} (p1 : -90000 ≤ p) (p2 : p ≤ 90000) (q1 : -90000 ≤ q) (q2 : q ≤ 90000) (hp : e1 = 0 → lo ≤ p ∧ p ≤ hi) (hq : e2 = 0 → lo ≤ q ∧ q ≤ hi) :
    0 ≤ chO p e1 q e2 tau y kn ∧ chO p e1 q e2 tau y kn ≤ 3 ∧ (chO p e1 q e2 tau y kn ≠ 3 → lo ≤ chV p e1 q e2 tau y kn ∧ chV p e1 q e2 tau y kn ≤ hi ∧ -90000 ≤ chV p e1 q e2 tau y kn ∧ chV p e1 q e2 tau y kn ≤ 90000) := by
  have hm : men p q = (p + q) / 2 := by unfold men; rw [clq_in p1 p2, clq_in q1 q2]
  unfold chO chV vrd
  generalize cloB p q y kn = c
  rw [hm]
  by_cases h1 : e1 = 0
  · have a := hp h1
    by_cases h2 : e2 = 0
    · have b := hq h2
      by_cases h3 : tau < apt p q
      · cases c <;> simp [h1, h2, h3] <;> omega
      · simp [h1, h2, h3]; omega
    · simp [h1, h2]; omega
  · by_cases h2 : e2 = 0
    · have b := hq h2
      simp [h1, h2]; omega
    · simp [h1, h2]
theorem ao_next {n o sh y lo hi : Int} {kn : Bool} (hn : o ≠ 3 → lo ≤ n ∧ n ≤ hi ∧ -90000 ≤ n ∧ n ≤ 90000) (y1 : -549755813887 ≤ y) (y2 : y ≤ 549755813887) (hk : kn = true → lo ≤ y ∧ y ≤ hi) (h0 : kn = false → y = 0) :
    (stK o kn = true → lo ≤ stY n o sh y kn ∧ stY n o sh y kn ≤ hi) ∧ (stK o kn = false → stY n o sh y kn = 0) := by
  unfold stK stY
  by_cases h : o = 3
  · rw [if_pos h, if_pos h]; exact ⟨hk, h0⟩
  · obtain ⟨a, b, c, d⟩ := hn h
    rw [if_neg h, if_neg h, clq_in c d]
    refine ⟨fun _ => ?_, fun e => by cases e⟩
    cases kn
    · simp only [Bool.false_eq_true, if_false]
      rw [lgV_self]; omega
    · simp only [if_true]
      have k := hk rfl
      have := lgV_between sh y n ⟨by omega, by omega⟩
      omega
theorem gr37_box (w : World) (ax ay : Option Addr) (cx cy : Nat) (X Y : List Int) : ∃ V, V = (w.alloc (.cells #[.slice ax X.length cx, .slice ay Y.length cy] 33)) ∧ Below w.heap.size w V ∧ V.heap.size = w.heap.size + 1 ∧ ∀ u, Below (w.heap.size + 1) V u → u.cell? ⟨w.heap.size, 0, none⟩ = some (.slice ax X.length cx) ∧ u.cell? ⟨w.heap.size, 1, none⟩ = some (.slice ay Y.length cy) :=
  ⟨_, rfl, (by repeat (first | exact Below.refl _ _ | assumption | apply Below.drew | apply below_drewN | (refine Below.alloc ?_ (by first | exact Nat.le_refl _ | omega | (simp <;> omega)) _) | (refine Below.setCell ?_ (by first | exact Nat.le_refl _ | omega | (simp <;> omega)) _))), by simp, fun u hu => ⟨(bc hu (by omega)).trans (by go_simp), (bc hu (by omega)).trans (by go_simp)⟩⟩
set_option maxRecDepth 100000 in
set_option maxHeartbeats 8000000 in
theorem agreat_any (ax ay : Option Addr) (cx cy : Nat) (X Y : List Int) (w : World) : Calls Try.prog 40 #[.agg #[.slice ax X.length cx, .slice ay Y.length cy]] w fun e w' => e = .returned (.bool (decide (300 < X.length) || decide (300 < Y.length))) ∧ Below w.heap.size w w' := by
  have dx : decide ((300 : Int) < (X.length : Int)) = decide (300 < X.length) := by simp; omega
  have dy : decide ((300 : Int) < (Y.length : Int)) = decide (300 < Y.length) := by simp; omega
  obtain ⟨p, hp⟩ : ∃ p, p = decide (300 < X.length) := ⟨_, rfl⟩
  obtain ⟨q, hq⟩ : ∃ q, q = decide (300 < Y.length) := ⟨_, rfl⟩
  rw [← hp] at dx ⊢
  rw [← hq] at dy ⊢
  clear hp hq
  obtain ⟨V, eV, hb0, hz, hcs⟩ := gr37_box w ax ay cx cy X Y
  replace hb0 := Lib.hid hb0
  replace hz := Lib.hid hz
  replace hcs := Lib.hid hcs
  replace eV := Lib.hid eV
  cases p
  · rw [Bool.false_or]
    go_enter Try.func40, Try.ntmps40
    go_wp2_with fail
    rw [← eV.out]
    obtain ⟨k0, k1⟩ := hcs.out _ (Below.refl _ _)
    go_wp2
    go_ret
    exact ⟨by first | rfl | (simp [dx, dy]; done) | (rw [dx, dy]; rfl), hb0.out⟩
  · rw [Bool.true_or]
    go_enter Try.func40, Try.ntmps40
    go_wp2_with fail
    rw [← eV.out]
    obtain ⟨k0, k1⟩ := hcs.out _ (Below.refl _ _)
    go_wp2
    go_ret
    exact ⟨by first | rfl | (simp [dx, dy]; done) | (rw [dx, dy]; rfl), hb0.out⟩
theorem abt_box (w : World) (ax ay : Option Addr) (cx cy : Nat) (X Y : List Int) (tau arm sh : Int) : ∃ V, V = (w.alloc (.cells #[.slice ax X.length cx, .slice ay Y.length cy, .int .i64 tau, .int .i64 arm, .int .i64 sh] 65)) ∧ Below w.heap.size w V ∧ V.heap.size = w.heap.size + 1 ∧ ∀ u, Below (w.heap.size + 1) V u → u.cell? ⟨w.heap.size, 0, none⟩ = some (.slice ax X.length cx) ∧ u.cell? ⟨w.heap.size, 1, none⟩ = some (.slice ay Y.length cy) ∧ u.cell? ⟨w.heap.size, 2, none⟩ = some (.int .i64 tau) ∧ u.cell? ⟨w.heap.size, 3, none⟩ = some (.int .i64 arm) ∧ u.cell? ⟨w.heap.size, 4, none⟩ = some (.int .i64 sh) :=
  ⟨_, rfl, (by repeat (first | exact Below.refl _ _ | assumption | apply Below.drew | apply below_drewN | (refine Below.alloc ?_ (by first | exact Nat.le_refl _ | omega | (simp <;> omega)) _) | (refine Below.setCell ?_ (by first | exact Nat.le_refl _ | omega | (simp <;> omega)) _))), by simp, fun u hu => ⟨(bc hu (by omega)).trans (by go_simp), (bc hu (by omega)).trans (by go_simp), (bc hu (by omega)).trans (by go_simp), (bc hu (by omega)).trans (by go_simp), (bc hu (by omega)).trans (by go_simp)⟩⟩
set_option maxRecDepth 100000 in
set_option maxHeartbeats 8000000 in
theorem law_AoaBetween (ax ay : Option Addr) (cx cy : Nat) (X Y : List Int) (tau arm sh : Int) (t : Option Addr) (cap : Nat) (rows : List (List Value)) (w : World) (hx : RowIs .i64 w ax X) (hy : RowIs .i64 w ay Y) (ht : Tab [some .i64, some .i64, some .i64, some .i64, some .i64, some .i64] w t rows) (hl : rows.length ≤ maxLen) :
    Calls Try.prog 11 #[.agg #[.slice ax X.length cx, .slice ay Y.length cy, .int .i64 tau, .int .i64 arm, .int .i64 sh], .slice t rows.length cap] w fun e w' => e = .returned (.bool true) ∧ Below w.heap.size w w' := by
  unfold maxLen at hl
  have LV := Lib.hid (fun u => lives39 u)
  have GR := fun u => agreat_any ax ay cx cy X Y u
  obtain ⟨V, eV, hb0, hz, hcs⟩ := abt_box w ax ay cx cy X Y tau arm sh
  have W := fun u (h : Below (w.heap.size + 1) V u) => show Below w.heap.size w u from hb0.trans (h.mono (by omega))
  cases hgr : (decide (300 < X.length) || decide (300 < Y.length))
  case true =>
    rw [hgr] at GR
    replace GR := Lib.hid GR
    clear hgr hx hy ht hl W
    replace hb0 := Lib.hid hb0
    replace hz := Lib.hid hz
    replace hcs := Lib.hid hcs
    replace eV := Lib.hid eV
    go_enter Try.func11, Try.ntmps11
    go_wp2_with fail
    rw [← eV.out]
    obtain ⟨k0, k1, k2, k3, k4⟩ := hcs.out _ (Below.refl _ _)
    go_wp2_with fail
    refine (GR.out _).mono ?_
    rintro e w1 ⟨rfl, hb1⟩
    have hb1 := (Below.refl (w.heap.size + 1) V).trans (hb1.mono (Nat.le_of_eq hz.out.symm))
    obtain ⟨k0, k1, k2, k3, k4⟩ := hcs.out _ hb1
    go_wp2_with fail
    refine (LV.out _).mono ?_
    rintro e w2 ⟨rfl, hb2⟩
    have hb2 := hb1.trans (hb2.mono (by have := hb1.size; have := hz.out; omega))
    clear hb1
    go_wp2
    go_ret
    exact ⟨rfl, hb0.out.trans (hb2.mono (by omega))⟩
  rw [hgr] at GR
  replace GR := Lib.hid GR
  have hX : X.length ≤ 300 := by simp at hgr; omega
  have hY : Y.length ≤ 300 := by simp at hgr; omega
  clear hgr
  by_cases hL : 60 < rows.length
  · have dl : (60 : Int) < (rows.length : Int) := by omega
    clear hx hy ht hl W hL hX hY
    replace hb0 := Lib.hid hb0
    replace hz := Lib.hid hz
    replace hcs := Lib.hid hcs
    replace eV := Lib.hid eV
    go_enter Try.func11, Try.ntmps11
    go_wp2_with fail
    rw [← eV.out]
    obtain ⟨k0, k1, k2, k3, k4⟩ := hcs.out _ (Below.refl _ _)
    go_wp2_with fail
    refine (GR.out _).mono ?_
    rintro e w1 ⟨rfl, hb1⟩
    have hb1 := (Below.refl (w.heap.size + 1) V).trans (hb1.mono (Nat.le_of_eq hz.out.symm))
    obtain ⟨k0, k1, k2, k3, k4⟩ := hcs.out _ hb1
    go_wp2_with fail
    refine (LV.out _).mono ?_
    rintro e w2 ⟨rfl, hb2⟩
    have hb2 := hb1.trans (hb2.mono (by have := hb1.size; have := hz.out; omega))
    clear hb1
    go_wp2
    go_ret
    exact ⟨rfl, hb0.out.trans (hb2.mono (by omega))⟩
  have dl : (rows.length : Int) ≤ 60 := by omega
  cases hw : agB X Y tau arm sh
  case false =>
    have NW := Lib.hid (fun u (h : Below (w.heap.size + 1) V u) => aonew_no ax ay cx cy X Y tau arm sh u (hx.below (W u h)) (hy.below (W u h)) hX hY hw)
    clear hw hx hy hX hY W ht hl hL
    replace hb0 := Lib.hid hb0
    replace hz := Lib.hid hz
    replace hcs := Lib.hid hcs
    replace eV := Lib.hid eV
    go_enter Try.func11, Try.ntmps11
    go_wp2_with fail
    rw [← eV.out]
    obtain ⟨k0, k1, k2, k3, k4⟩ := hcs.out _ (Below.refl _ _)
    go_wp2_with fail
    refine (GR.out _).mono ?_
    rintro e w1 ⟨rfl, hb1⟩
    have hb1 := (Below.refl (w.heap.size + 1) V).trans (hb1.mono (Nat.le_of_eq hz.out.symm))
    obtain ⟨k0, k1, k2, k3, k4⟩ := hcs.out _ hb1
    go_wp2_with fail
    refine (NW.out _ hb1).mono ?_
    rintro e w2 ⟨rfl, hb2⟩
    have hb2 := hb1.trans (hb2.mono (by have := hb1.size; have := hz.out; omega))
    clear hb1
    obtain ⟨k0, k1, k2, k3, k4⟩ := hcs.out _ hb2
    go_wp2_with fail
    refine (LV.out _).mono ?_
    rintro e w4 ⟨rfl, hb4⟩
    have hb4 := hb2.trans (hb4.mono (by have := hb2.size; have := hz.out; omega))
    clear hb2
    go_wp2
    go_ret
    exact ⟨rfl, hb0.out.trans (hb4.mono (by omega))⟩
  case true =>
  have NW := Lib.hid (fun u (h : Below (w.heap.size + 1) V u) => aonew_ok ax ay cx cy X Y tau arm sh u (hx.below (W u h)) (hy.below (W u h)) hX hY hw)
  obtain ⟨hg, ⟨ta1, ta2⟩, -⟩ := agB_at hw
  obtain ⟨m1, m2, m3, _⟩ := rgtB_at hg
  have AS := Lib.hid (fun b f g1 c1 g2 c2 y kn x e x2 e2 r s u h hs y1 y2 => astep_any b f g1 c1 g2 c2 X Y tau arm sh y kn x e x2 e2 r s u h hX hY hs hw y1 y2)
  have TR0 := fun x r s u (hb : Below w.heap.size w u) hs => atrue_any ax ay cx cy X Y tau arm sh x r s u (hx.below hb) (hy.below hb) hX hY hs
  rw [hw] at TR0
  simp only [if_true] at TR0
  replace TR0 := Lib.hid TR0
  have AM := Lib.hid (fun b f g1 c1 g2 c2 y kn u h => aalpha_any b f g1 c1 g2 c2 X Y tau arm sh y kn u h)
  have RB := Lib.hid (fun (u : World) g1 g2 c1 c2 b f (h : Met b f g1 c1 g2 c2 X Y tau arm sh 0 false u) => show b < u.heap.size ∧ f < u.heap.size ∧ g1 < u.heap.size ∧ g2 < u.heap.size from by
    obtain ⟨_, _, ea, l1, -⟩ := h.rx.at (show 0 < X.length by omega)
    injection ea with ea
    injection ea with ea _
    obtain ⟨_, _, eb, l2, -⟩ := h.ry.at (show 0 < Y.length by omega)
    injection eb with eb
    injection eb with eb _
    exact ⟨h.m.lt, h.l.lt, by omega, by omega⟩)
  have HT := Lib.hid (fun u (hb : Below w.heap.size w u) i (hi : i < rows.length) => look_at (ht.below hb) hi)
  replace W := Lib.hid W
  clear hw hx hy hX hY ht hl hL hg m1 m2 m3
  replace hb0 := Lib.hid hb0
  replace hz := Lib.hid hz
  replace hcs := Lib.hid hcs
  replace eV := Lib.hid eV
  go_enter Try.func11, Try.ntmps11
  go_wp2_with fail
  rw [← eV.out]
  obtain ⟨k0, k1, k2, k3, k4⟩ := hcs.out _ (Below.refl _ _)
  go_wp2_with fail
  refine (GR.out _).mono ?_
  rintro e w1 ⟨rfl, hb1⟩
  have hb1 := (Below.refl (w.heap.size + 1) V).trans (hb1.mono (Nat.le_of_eq hz.out.symm))
  obtain ⟨k0, k1, k2, k3, k4⟩ := hcs.out _ hb1
  go_wp2_with fail
  refine (NW.out _ hb1).mono ?_
  rintro e w2 ⟨b, f, h1, q1, h2, q2, rfl, hM, hbb, hbf, hb2⟩
  have hb2 := hb1.trans (hb2.mono (by have := hb1.size; have := hz.out; omega))
  obtain ⟨k0, k1, k2, k3, k4⟩ := hcs.out _ hb2
  obtain ⟨lb, lf, l1, l2⟩ := RB.out _ _ _ _ _ _ _ hM
  have hbf1 : w.heap.size + 1 ≤ f := by have := hb1.size; have := hz.out; omega
  replace hM := Lib.hid hM
  clear hb1 lb lf l1 l2 hbb hbf
  replace hb2 := Lib.hid hb2
  go_wp2
  go_loopw [7, 8, 9] (fun lo hi i v => ∃ (j : Nat) (y lo' hi' : Int) (kn : Bool), j ≤ rows.length ∧ lo = .int .i64 lo' ∧ hi = .int .i64 hi' ∧ i = .int .i64 (j : Int) ∧ -549755813887 ≤ y ∧ y ≤ 549755813887 ∧ Hid (kn = true → lo' ≤ y ∧ y ≤ hi') ∧ Hid (kn = false → y = 0) ∧ Hid (Met b f h1 q1 h2 q2 X Y tau arm sh y kn v) ∧ Hid (Below (w.heap.size + 1) V v)) (fun lo hi i _ => rows.length - (intOf i).toNat)
  case atStart => exact ⟨0, 0, 90000, -90000, false, by omega, rfl, rfl, rfl, by omega, by omega, Lib.hid (fun h => by cases h), Lib.hid (fun _ => rfl), hM, hb2⟩
  case round =>
    clear hM hb2 k0 k1 k2 k3 k4
    obtain ⟨j, y, lo, hi, kn, hj, rfl, rfl, rfl, y1, y2, hk1, hk0, hM, hb⟩ := hrel
    by_cases hlt : j < rows.length
    · obtain ⟨tb, off, x, e1, x2, e2, r, s, rfl, htb, hs, hc⟩ := HT.out _ (W.out _ hb.out) j hlt
      obtain ⟨t0, t1, t2, t3, t4, t5⟩ := hc _ (Below.refl _ _)
      have hlt1 : (j : Int) < (rows.length : Int) := by omega
      clear hc
      go_upto_region 11 with (fail)
      have hr0 := Held.new wr [.int .i64 x, .int .i64 e1, .int .i64 x2, .int .i64 e2, .int .i64 r, .int .i64 s] 75
      obtain ⟨V3, eV3, hbr, hr⟩ : ∃ V3, V3 = wr.alloc (.cells #[.int .i64 x, .int .i64 e1, .int .i64 x2, .int .i64 e2, .int .i64 r, .int .i64 s] 75) ∧ Below wr.heap.size wr V3 ∧ Held wr.heap.size [.int .i64 x, .int .i64 e1, .int .i64 x2, .int .i64 e2, .int .i64 r, .int .i64 s] V3 := ⟨_, rfl, (Below.refl _ _).alloc (Nat.le_refl _) _, hr0⟩
      rw [← eV3]
      replace eV3 := Lib.hid eV3
      have ef : wr.heap.size ≠ f := by have := hM.out.l.lt; omega
      have hM3 := Lib.hid (hM.out.bel hbr)
      have hb3 := Lib.hid (hb.out.trans (hbr.mono (by have := hb.out.size; have := hz.out; omega)))
      generalize wr.heap.size = rb at *
      clear hbr hr0 t0 t1 t2 t3 t4 t5 hM hb
      replace hr := Lib.hid hr
      have AS1 := Lib.hid (fun u h => AS.out b f h1 q1 h2 q2 y kn x e1 x2 e2 r s u h hs y1 y2)
      have TP := fun u h => TR0.out x r s u h hs
      have TQ := fun u h => TR0.out x2 r s u h hs
      have pb : -90000 ≤ trV X Y arm x r s ∧ trV X Y arm x r s ≤ 90000 := clA_bd _
      have qb : -90000 ≤ trV X Y arm x2 r s ∧ trV X Y arm x2 r s ≤ 90000 := clA_bd _
      generalize trV X Y arm x r s = p at *
      generalize trV X Y arm x2 r s = q at *
      replace TP := Lib.hid TP
      replace TQ := Lib.hid TQ
      have lk := loK_le lo hi p q e1 e2
      have ci := ch_in (p := p) (e1 := e1) (q := q) (e2 := e2) (tau := tau) (y := y) (kn := kn) (lo := loK lo p q e1 e2 2) (hi := hiK hi p q e1 e2 2) pb.1 pb.2 qb.1 qb.2 lk.2.2.1 lk.2.2.2
      have yb := stY_bd (n := chV p e1 q e2 tau y kn) (o := chO p e1 q e2 tau y kn) (sh := sh) (kn := kn) y1 y2
      have nx := ao_next (n := chV p e1 q e2 tau y kn) (o := chO p e1 q e2 tau y kn) (sh := sh) (kn := kn) (lo := loK lo p q e1 e2 2) (hi := hiK hi p q e1 e2 2) ci.2.2 y1 y2 (fun h => by have := hk1.out h; omega) hk0.out
      generalize stY (chV p e1 q e2 tau y kn) (chO p e1 q e2 tau y kn) sh y kn = y' at *
      generalize stK (chO p e1 q e2 tau y kn) kn = kn' at *
      generalize chO p e1 q e2 tau y kn = oo at *
      have o1 : 0 ≤ oo := ci.1
      have o2 : oo ≤ 3 := ci.2.1
      clear lk ci pb qb
      replace yb := Lib.hid yb
      replace nx := Lib.hid nx
      go_wp2
      go_loopw [7, 8, 11] (fun l h i v => ∃ k : Nat, k ≤ 2 ∧ l = .int .i64 (loK lo p q e1 e2 k) ∧ h = .int .i64 (hiK hi p q e1 e2 k) ∧ i = .int .i64 (k : Int) ∧ Hid (Below V3.heap.size V3 v)) (fun l h i _ => 2 - (intOf i).toNat)
      case atStart => exact ⟨0, by omega, rfl, rfl, rfl, Lib.hid (Below.refl _ _)⟩
      case round =>
        obtain ⟨k, hk, rfl, rfl, rfl, hq⟩ := hrel
        have hbq := Lib.hid (hb3.out.trans (hq.out.mono (by have := hb3.out.size; have := hz.out; omega)))
        have hrq := hr.out.bel hq.out
        obtain ⟨z0, g0⟩ := hrq.one 0 rfl
        obtain ⟨z1, g1⟩ := hrq.one 1 rfl
        obtain ⟨z2, g2⟩ := hrq.one 2 rfl
        obtain ⟨z3, g3⟩ := hrq.one 3 rfl
        obtain ⟨z4, g4⟩ := hrq.one 4 rfl
        obtain ⟨z5, g5⟩ := hrq.one 5 rfl
        clear hrq g0 g1 g2 g3 g4 g5
        obtain rfl | rfl | rfl : k = 0 ∨ k = 1 ∨ k = 2 := by omega
        · rw [show ((0 : Nat) : Int) = 0 from rfl]
          go_upto_region 17 with (fail)
          obtain ⟨V5, eV5, hb5, r0, r1⟩ : ∃ V5, V5 = wr.alloc (.cells #[.int .i64 x, .int .i64 e1] 73) ∧ Below wr.heap.size wr V5 ∧ V5.cell? ⟨wr.heap.size, 0, none⟩ = some (.int .i64 x) ∧ V5.cell? ⟨wr.heap.size, 1, none⟩ = some (.int .i64 e1) := ⟨_, rfl, (Below.refl _ _).alloc (Nat.le_refl _) _, by go_simp, by go_simp⟩
          rw [← eV5]
          replace eV5 := Lib.hid eV5
          have hb5' := hbq.out.trans (hb5.mono (by have := hbq.out.size; have := hz.out; omega))
          obtain ⟨k0, k1, k2, k3, k4⟩ := hcs.out _ hb5'
          have hr5 := hr.out.bel (hq.out.trans (hb5.mono hq.out.size))
          obtain ⟨z0, g0⟩ := hr5.one 0 rfl
          obtain ⟨z1, g1⟩ := hr5.one 1 rfl
          obtain ⟨z2, g2⟩ := hr5.one 2 rfl
          obtain ⟨z3, g3⟩ := hr5.one 3 rfl
          obtain ⟨z4, g4⟩ := hr5.one 4 rfl
          obtain ⟨z5, g5⟩ := hr5.one 5 rfl
          have hq5 := Lib.hid (hq.out.trans (hb5.mono hq.out.size))
          clear hr5 g0 g1 g2 g3 g4 g5 hq hbq hb5
          by_cases he : e1 = 0
          · have d1 : (e1 == 0) = true := by simp [he]
            have EL := Lib.hid (show loK lo p q e1 e2 1 = min (loK lo p q e1 e2 0) p by unfold loK; simp [he])
            have EH := Lib.hid (show hiK hi p q e1 e2 1 = max (hiK hi p q e1 e2 0) p by unfold hiK; simp [he])
            generalize loK lo p q e1 e2 0 = l0 at *
            generalize hiK hi p q e1 e2 0 = l1 at *
            clear he
            go_wp2_with fail
            refine (TP.out _ (W.out _ hb5')).mono ?_
            rintro e w6 ⟨rfl, hb6⟩
            have hq6 := Lib.hid (hq5.out.trans (hb6.mono hq5.out.size))
            clear hb6
            go_wp2
            go_roundw
            case rel => exact ⟨1, by omega, by rw [EL.out], by rw [EH.out], by go_num, hq6⟩
            case measure => simp [intOf]
          · have d1 : (e1 == 0) = false := by simp [he]
            have EL := Lib.hid (show loK lo p q e1 e2 1 = loK lo p q e1 e2 0 by unfold loK; simp [he])
            have EH := Lib.hid (show hiK hi p q e1 e2 1 = hiK hi p q e1 e2 0 by unfold hiK; simp [he])
            generalize loK lo p q e1 e2 0 = l0 at *
            generalize hiK hi p q e1 e2 0 = l1 at *
            clear he
            go_wp2
            go_roundw
            case rel => exact ⟨1, by omega, by rw [EL.out], by rw [EH.out], by go_num, hq5⟩
            case measure => simp [intOf]
        · rw [show ((1 : Nat) : Int) = 1 from rfl]
          go_upto_region 15 with (fail)
          obtain ⟨V4, eV4, hb4, s0, s1, s2, s3⟩ : ∃ V4, V4 = wr.alloc (.cells #[.int .i64 x, .int .i64 e1] 73) ∧ Below wr.heap.size wr V4 ∧ V4.cell? ⟨wr.heap.size, 0, none⟩ = some (.int .i64 x) ∧ V4.cell? ⟨wr.heap.size, 1, none⟩ = some (.int .i64 e1) ∧ V4.frozen? ⟨wr.heap.size, 0, none⟩ = false ∧ V4.frozen? ⟨wr.heap.size, 1, none⟩ = false := ⟨_, rfl, (Below.refl _ _).alloc (Nat.le_refl _) _, by go_simp, by go_simp, by first | (simp; done) | go_simp, by first | (simp; done) | go_simp⟩
          rw [← eV4]
          replace eV4 := Lib.hid eV4
          have hr4 := hr.out.bel (hq.out.trans (hb4.mono hq.out.size))
          clear z0 z1 z2 z3 z4 z5
          obtain ⟨z0, g0⟩ := hr4.one 0 rfl
          obtain ⟨z1, g1⟩ := hr4.one 1 rfl
          obtain ⟨z2, g2⟩ := hr4.one 2 rfl
          obtain ⟨z3, g3⟩ := hr4.one 3 rfl
          obtain ⟨z4, g4⟩ := hr4.one 4 rfl
          obtain ⟨z5, g5⟩ := hr4.one 5 rfl
          clear hr4 g0 g1 g2 g3 g4 g5
          replace hb4 := Lib.hid hb4
          go_upto_region 17 with (fail)
          obtain ⟨V5, eV5, hb5, r0, r1⟩ : ∃ V5, V5 = (V4.setCell ⟨wr.heap.size, 0, none⟩ (.int .i64 x2)).setCell ⟨wr.heap.size, 1, none⟩ (.int .i64 e2) ∧ Below wr.heap.size wr V5 ∧ V5.cell? ⟨wr.heap.size, 0, none⟩ = some (.int .i64 x2) ∧ V5.cell? ⟨wr.heap.size, 1, none⟩ = some (.int .i64 e2) := ⟨_, rfl, (hb4.out.setCell (p := ⟨wr.heap.size, 0, none⟩) (Nat.le_refl _) _).setCell (p := ⟨wr.heap.size, 1, none⟩) (Nat.le_refl _) _, (World.cell?_setCell_other _ ⟨wr.heap.size, 1, none⟩ ⟨wr.heap.size, 0, none⟩ _ (by simp)).trans (World.cell?_setCell_same V4 ⟨wr.heap.size, 0, none⟩ _ s0), World.cell?_setCell_same _ ⟨wr.heap.size, 1, none⟩ _ ((World.cell?_setCell_other V4 ⟨wr.heap.size, 0, none⟩ ⟨wr.heap.size, 1, none⟩ _ (by simp)).trans s1)⟩
          clear z0 z1 z2 z3 z4 z5 s0 s1 s2 s3
          rw [← eV5]
          replace eV5 := Lib.hid eV5
          have hb5' := hbq.out.trans (hb5.mono (by have := hbq.out.size; have := hz.out; omega))
          obtain ⟨k0, k1, k2, k3, k4⟩ := hcs.out _ hb5'
          have hr5 := hr.out.bel (hq.out.trans (hb5.mono hq.out.size))
          obtain ⟨z0, g0⟩ := hr5.one 0 rfl
          obtain ⟨z1, g1⟩ := hr5.one 1 rfl
          obtain ⟨z2, g2⟩ := hr5.one 2 rfl
          obtain ⟨z3, g3⟩ := hr5.one 3 rfl
          obtain ⟨z4, g4⟩ := hr5.one 4 rfl
          obtain ⟨z5, g5⟩ := hr5.one 5 rfl
          have hq5 := Lib.hid (hq.out.trans (hb5.mono hq.out.size))
          clear hr5 g0 g1 g2 g3 g4 g5 hq hbq hb5
          by_cases he : e2 = 0
          · have d1 : (e2 == 0) = true := by simp [he]
            have EL := Lib.hid (show loK lo p q e1 e2 2 = min (loK lo p q e1 e2 1) q by unfold loK; simp [he])
            have EH := Lib.hid (show hiK hi p q e1 e2 2 = max (hiK hi p q e1 e2 1) q by unfold hiK; simp [he])
            generalize loK lo p q e1 e2 1 = l0 at *
            generalize hiK hi p q e1 e2 1 = l1 at *
            clear he
            go_wp2_with fail
            refine (TQ.out _ (W.out _ hb5')).mono ?_
            rintro e w6 ⟨rfl, hb6⟩
            have hq6 := Lib.hid (hq5.out.trans (hb6.mono hq5.out.size))
            clear hb6
            go_wp2
            go_roundw
            case rel => exact ⟨2, by omega, by rw [EL.out], by rw [EH.out], by go_num, hq6⟩
            case measure => simp [intOf]
          · have d1 : (e2 == 0) = false := by simp [he]
            have EL := Lib.hid (show loK lo p q e1 e2 2 = loK lo p q e1 e2 1 by unfold loK; simp [he])
            have EH := Lib.hid (show hiK hi p q e1 e2 2 = hiK hi p q e1 e2 1 by unfold hiK; simp [he])
            generalize loK lo p q e1 e2 1 = l0 at *
            generalize hiK hi p q e1 e2 1 = l1 at *
            clear he
            go_wp2
            go_roundw
            case rel => exact ⟨2, by omega, by rw [EL.out], by rw [EH.out], by go_num, hq5⟩
            case measure => simp [intOf]
        · rw [show ((2 : Nat) : Int) = 2 from rfl]
          generalize loK lo p q e1 e2 2 = l0 at *
          generalize hiK hi p q e1 e2 2 = l1 at *
          have hM6 := Lib.hid (hM3.out.bel hq.out)
          clear hM3 hq
          go_wp2_with fail
          refine (AS1.out _ hM6.out).mono ?_
          rintro e w7 ⟨rfl, hM7, o7⟩
          have hb7 := Lib.hid (hbq.out.trans (o7.below hbf1 (by have := hbq.out.size; have := hz.out; omega)))
          replace hM7 := Lib.hid hM7
          clear o7 hM6 hbq z0 z1 z2 z3 z4 z5
          go_wp2_with fail
          refine (AM.out _ _ _ _ _ _ _ _ _ hM7.out).mono ?_
          rintro e w8 ⟨rfl, hb8⟩
          have hM8 := Lib.hid (hM7.out.bel hb8)
          replace hb8 := Lib.hid (hb7.out.trans (hb8.mono (by have := hb7.out.size; have := hz.out; omega)))
          clear hM7 hb7
          cases kn'
          · have y0 := nx.out.2 rfl
            have d1 : (y' != 0) = false := by simp [y0]
            clear y0
            go_wp2
            go_roundw
            case rel => exact ⟨j + 1, y', l0, l1, false, by omega, rfl, rfl, by go_num, yb.out.1, yb.out.2, Lib.hid (fun h => by cases h), Lib.hid (fun _ => nx.out.2 (by first | trivial | rfl)), hM8, hb8⟩
            case measure => simp [intOf]; omega
          · obtain ⟨n1, n2⟩ := nx.out.1 rfl
            go_wp2
            go_roundw
            case rel => exact ⟨j + 1, y', l0, l1, true, by omega, rfl, rfl, by go_num, yb.out.1, yb.out.2, Lib.hid (fun _ => nx.out.1 (by first | trivial | rfl)), Lib.hid (fun h => by cases h), hM8, hb8⟩
            case measure => simp [intOf]; omega
    · have hge : (rows.length : Int) ≤ (j : Int) := by omega
      go_wp2_with fail
      refine (LV.out _).mono ?_
      rintro e w6 ⟨rfl, hb6⟩
      have hb6 := (W.out _ hb.out).trans (hb6.mono (W.out _ hb.out).size)
      go_wp2
      go_ret
      exact ⟨rfl, hb6⟩
end Go.Proofs.Ytnfbfggkbpobiaa
