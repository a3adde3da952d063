/- The law LiftGrows, walked. -/
import Derived.Test.YtmmenpaodofahaaLift3
import Derived.Deep.Cut
namespace Go.Proofs.Ytmmenpaodofahaa
open Go.ChangeShapes Go.WideShapes Go.ChangeAt Go.RowKit
set_option linter.unusedVariables false
set_option linter.unusedSimpArgs false
theorem lgr_box (w : World) (ax ay : Option Addr) (cx cy : Nat) (X Y : List Int) (a l : Int) (s t x0 x1 y0 y1 : Int) : ∃ V, V = (((w.alloc (.cells #[.slice ax X.length cx, .slice ay Y.length cy, .int .i64 a, .int .i64 l] 43)).alloc (.cells #[.int .i64 s, .int .i64 t] 39)).alloc (.cells #[.int .i64 x0, .int .i64 x1, .int .i64 y0, .int .i64 y1] 56)) ∧ Below w.heap.size w V ∧ V.heap.size = w.heap.size + 3 ∧ ∀ u, Below (w.heap.size + 3) V u → u.cell? ⟨w.heap.size, 0, none⟩ = some (.slice ax X.length cx) ∧ u.cell? ⟨w.heap.size, 1, none⟩ = some (.slice ay Y.length cy) ∧ u.cell? ⟨w.heap.size, 2, none⟩ = some (.int .i64 a) ∧ u.cell? ⟨w.heap.size, 3, none⟩ = some (.int .i64 l) ∧ u.cell? ⟨w.heap.size + 1, 0, none⟩ = some (.int .i64 s) ∧ u.cell? ⟨w.heap.size + 1, 1, none⟩ = some (.int .i64 t) ∧ u.cell? ⟨w.heap.size + 2, 0, none⟩ = some (.int .i64 x0) ∧ u.cell? ⟨w.heap.size + 2, 1, none⟩ = some (.int .i64 x1) ∧ u.cell? ⟨w.heap.size + 2, 2, none⟩ = some (.int .i64 y0) ∧ u.cell? ⟨w.heap.size + 2, 3, none⟩ = some (.int .i64 y1) :=
  ⟨_, rfl, (by repeat (first | exact Below.refl _ _ | assumption | apply Below.drew | apply below_drewN | (refine Below.alloc ?_ (by first | exact Nat.le_refl _ | omega | (simp <;> omega)) _) | (refine Below.setCell ?_ (by first | exact Nat.le_refl _ | omega | (simp <;> omega)) _))), by simp, fun u hu => ⟨(bc hu (by omega)).trans (by go_simp), (bc hu (by omega)).trans (by go_simp), (bc hu (by omega)).trans (by go_simp), (bc hu (by omega)).trans (by go_simp), (bc hu (by omega)).trans (by go_simp), (bc hu (by omega)).trans (by go_simp), (bc hu (by omega)).trans (by go_simp), (bc hu (by omega)).trans (by go_simp), (bc hu (by omega)).trans (by go_simp), (bc hu (by omega)).trans (by go_simp)⟩⟩

theorem lE_ok {X Y : List Int} {a l t x y : Int} (h : lE X Y a l t x y = 0) : wgB X Y a l = true ∧ 1 ≤ x ∧ 1 ≤ y ∧ 0 < a ∧ 0 < a * min (crF X Y t) 68719476736 ∧ lQ X Y a l t x y = (y * x) * 6400000 / (a * min (crF X Y t) 68719476736) := by
  unfold lE at h
  cases hw : wgB X Y a l
  · rw [hw] at h; simp at h
  · rw [hw, if_pos rfl] at h
    obtain ⟨-, wa, wl⟩ := wgB_at hw
    cases hb : (betB x 10000 && betB y 100000000)
    · rw [hb] at h; simp at h
    · rw [hb, if_pos rfl] at h
      have hb' := hb
      simp only [Bool.and_eq_true] at hb'
      obtain ⟨x1, x2⟩ := betB_at hb'.1
      obtain ⟨y1, y2⟩ := betB_at hb'.2
      obtain ⟨a1, a2⟩ := betB_at wa
      obtain ⟨l1, l2⟩ := betB_at wl
      unfold lQ
      rw [hw, hb]
      rw [show (true && true) = true from rfl, if_pos rfl]
      unfold dyE at h
      unfold dyV
      by_cases hc : crF X Y t < l
      · rw [if_pos hc] at h; cases h
      · rw [if_neg hc] at h ⊢
        have m1 : 1 ≤ min (crF X Y t) 68719476736 := by omega
        have hp : 0 < a * min (crF X Y t) 68719476736 := Int.mul_pos (by omega) (by omega)
        unfold dyB at h
        cases hB : flB (y * x) 6400000 (a * min (crF X Y t) 68719476736)
        · rw [hB] at h; simp at h
        · refine ⟨rfl, x1, y1, by omega, hp, ?_⟩
          unfold flV
          rw [hB, if_pos rfl, cwq_pos hp]
theorem lQ_more {X Y : List Int} {a l t x0 x1 y0 y1 : Int} (h : lE X Y a l t x0 y0 = 0) (g : lE X Y a l t x1 y1 = 0) (hx : x0 ≤ x1) (hy : y0 ≤ y1) : lQ X Y a l t x0 y0 ≤ lQ X Y a l t x1 y1 := by
  obtain ⟨-, p1, p2, p3, p4, p5⟩ := lE_ok h
  obtain ⟨-, q1, q2, q3, q4, q5⟩ := lE_ok g
  rw [p5, q5]
  have := Int.mul_le_mul hy hx (by omega) (by omega)
  exact Int.ediv_le_ediv p4 (by omega)
theorem lQ_less {X Y : List Int} {a l s t x y : Int} (h : lE X Y a l s x y = 0) (g : lE X Y a l t x y = 0) (hc : crF X Y s ≤ crF X Y t) : lQ X Y a l t x y ≤ lQ X Y a l s x y := by
  obtain ⟨-, p1, p2, p3, p4, p5⟩ := lE_ok h
  obtain ⟨-, q1, q2, q3, q4, q5⟩ := lE_ok g
  rw [p5, q5]
  have hn : 0 ≤ y * x * 6400000 := Int.mul_nonneg (Int.mul_nonneg (by omega) (by omega)) (by omega)
  have hd : a * min (crF X Y s) 68719476736 ≤ a * min (crF X Y t) 68719476736 := Int.mul_le_mul_of_nonneg_left (by omega) (by omega)
  generalize y * x * 6400000 = N at *
  generalize a * min (crF X Y s) 68719476736 = D1 at *
  generalize a * min (crF X Y t) 68719476736 = D2 at *
  apply Int.le_ediv_of_mul_le p4
  have z : 0 ≤ N / D2 := Int.ediv_nonneg hn (by omega)
  have e3 := Int.ediv_mul_le N (show D2 ≠ 0 by omega)
  have e5 := Int.mul_le_mul_of_nonneg_left hd z
  omega
set_option maxRecDepth 100000 in
set_option maxHeartbeats 8000000 in
theorem law_LiftGrows (ax ay : Option Addr) (cx cy : Nat) (X Y : List Int) (a l : Int) (s t x0 x1 y0 y1 : Int) (w : World) (hx : RowIs .i64 w ax X) (hy : RowIs .i64 w ay Y) :
    Calls Try.prog 9 #[.agg #[.slice ax X.length cx, .slice ay Y.length cy, .int .i64 a, .int .i64 l], .agg #[.int .i64 s, .int .i64 t], .agg #[.int .i64 x0, .int .i64 x1, .int .i64 y0, .int .i64 y1]] w fun e w' => e = .returned (.bool true) ∧ Below w.heap.size w w' := by
  have LV := Lib.hid (fun u => lives18 u)
  have GR := fun u => lgreat_any ax ay cx cy X Y u
  obtain ⟨V, eV, hb0, hz, hcs⟩ := lgr_box w ax ay cx cy X Y a l s t x0 x1 y0 y1
  have W := fun u (h : Below (w.heap.size + 3) V u) => show Below w.heap.size w u from hb0.trans (h.mono (by omega))
  cases hgr : (decide (300 < X.length) || decide (300 < Y.length))
  case true =>
    rw [hgr] at GR
    replace GR := Lib.hid GR
    clear hgr hx hy
    replace hb0 := Lib.hid hb0
    replace hz := Lib.hid hz
    replace hcs := Lib.hid hcs
    replace eV := Lib.hid eV
    go_enter Try.func9, Try.ntmps9
    go_wp2_with fail
    rw [← eV.out]
    obtain ⟨k0, k1, k2, k3, k4, k5, k6, k7, k8, k9⟩ := hcs.out _ (Below.refl _ _)
    go_wp2_with fail
    refine (GR.out _).mono ?_
    rintro e w1 ⟨rfl, hb1⟩
    have hb1 := (Below.refl (w.heap.size + 3) V).trans (hb1.mono (Nat.le_of_eq hz.out.symm))
    obtain ⟨k0, k1, k2, k3, k4, k5, k6, k7, k8, k9⟩ := hcs.out _ hb1
    go_wp2_with fail
    refine (LV.out _).mono ?_
    rintro e w2 ⟨rfl, hb2⟩
    have hb2 := hb1.trans (hb2.mono (by have := hb1.size; have := hz.out; omega))
    clear hb1
    go_wp2
    go_ret
    exact ⟨rfl, hb0.out.trans (hb2.mono (by omega))⟩
  rw [hgr] at GR
  replace GR := Lib.hid GR
  have hX : X.length ≤ 300 := by simp at hgr; omega
  have hY : Y.length ≤ 300 := by simp at hgr; omega
  clear hgr
  rcases (show x1 < x0 ∨ x0 ≤ x1 by omega) with h1 | h1
  · clear hx hy hX hY W
    replace hb0 := Lib.hid hb0
    replace hz := Lib.hid hz
    replace hcs := Lib.hid hcs
    replace eV := Lib.hid eV
    go_enter Try.func9, Try.ntmps9
    go_wp2_with fail
    rw [← eV.out]
    obtain ⟨k0, k1, k2, k3, k4, k5, k6, k7, k8, k9⟩ := hcs.out _ (Below.refl _ _)
    go_wp2_with fail
    refine (GR.out _).mono ?_
    rintro e w1 ⟨rfl, hb1⟩
    have hb1 := (Below.refl (w.heap.size + 3) V).trans (hb1.mono (Nat.le_of_eq hz.out.symm))
    obtain ⟨k0, k1, k2, k3, k4, k5, k6, k7, k8, k9⟩ := hcs.out _ hb1
    go_wp2_with fail
    refine (LV.out _).mono ?_
    rintro e w2 ⟨rfl, hb2⟩
    have hb2 := hb1.trans (hb2.mono (by have := hb1.size; have := hz.out; omega))
    clear hb1
    go_wp2
    go_ret
    exact ⟨rfl, hb0.out.trans (hb2.mono (by omega))⟩
  rcases (show y1 < y0 ∨ y0 ≤ y1 by omega) with h2 | h2
  · clear hx hy hX hY W
    replace hb0 := Lib.hid hb0
    replace hz := Lib.hid hz
    replace hcs := Lib.hid hcs
    replace eV := Lib.hid eV
    go_enter Try.func9, Try.ntmps9
    go_wp2_with fail
    rw [← eV.out]
    obtain ⟨k0, k1, k2, k3, k4, k5, k6, k7, k8, k9⟩ := hcs.out _ (Below.refl _ _)
    go_wp2_with fail
    refine (GR.out _).mono ?_
    rintro e w1 ⟨rfl, hb1⟩
    have hb1 := (Below.refl (w.heap.size + 3) V).trans (hb1.mono (Nat.le_of_eq hz.out.symm))
    obtain ⟨k0, k1, k2, k3, k4, k5, k6, k7, k8, k9⟩ := hcs.out _ hb1
    go_wp2_with fail
    refine (LV.out _).mono ?_
    rintro e w2 ⟨rfl, hb2⟩
    have hb2 := hb1.trans (hb2.mono (by have := hb1.size; have := hz.out; omega))
    clear hb1
    go_wp2
    go_ret
    exact ⟨rfl, hb0.out.trans (hb2.mono (by omega))⟩
  have D1 := Lib.hid (fun u (h : Below (w.heap.size + 3) V u) => ldynamic2 ax ay cx cy X Y a l s x0 y0 u (hx.below (W u h)) (hy.below (W u h)) hX hY)
  have D2 := Lib.hid (fun u (h : Below (w.heap.size + 3) V u) => ldynamic2 ax ay cx cy X Y a l s x1 y1 u (hx.below (W u h)) (hy.below (W u h)) hX hY)
  have D3 := Lib.hid (fun u (h : Below (w.heap.size + 3) V u) => ldynamic2 ax ay cx cy X Y a l t x0 y0 u (hx.below (W u h)) (hy.below (W u h)) hX hY)
  have C1 := Lib.hid (fun u (h : Below (w.heap.size + 3) V u) => lcoef2 ax ay cx cy X Y a l s u (hx.below (W u h)) (hy.below (W u h)) hX hY)
  have C2 := Lib.hid (fun u (h : Below (w.heap.size + 3) V u) => lcoef2 ax ay cx cy X Y a l t u (hx.below (W u h)) (hy.below (W u h)) hX hY)
  have H1 := Lib.hid (fun h g => lQ_more (X := X) (Y := Y) (a := a) (l := l) (t := s) (x0 := x0) (x1 := x1) (y0 := y0) (y1 := y1) h g h1 h2)
  have H2 : wgB X Y a l = true → lE X Y a l s x0 y0 = 0 → lE X Y a l t x0 y0 = 0 → ((if wgB X Y a l = true then crF X Y s else 0) ≤ (if wgB X Y a l = true then crF X Y t else 0) → lQ X Y a l t x0 y0 ≤ lQ X Y a l s x0 y0) ∧ ((if wgB X Y a l = true then crF X Y t else 0) ≤ (if wgB X Y a l = true then crF X Y s else 0) → lQ X Y a l s x0 y0 ≤ lQ X Y a l t x0 y0) := fun a b c => by
    rw [if_pos a, if_pos a]
    exact ⟨fun h => lQ_less b c h, fun h => lQ_less c b h⟩
  replace H2 := Lib.hid H2
  generalize lQ X Y a l s x0 y0 = Q1 at *
  generalize lE X Y a l s x0 y0 = E1 at *
  generalize lQ X Y a l s x1 y1 = Q2 at *
  generalize lE X Y a l s x1 y1 = E2 at *
  generalize lQ X Y a l t x0 y0 = Q3 at *
  generalize lE X Y a l t x0 y0 = E3 at *
  generalize (if wgB X Y a l = true then crF X Y s else 0) = c at *
  generalize (if wgB X Y a l = true then crF X Y t else 0) = d at *
  generalize wgB X Y a l = g at *
  clear hx hy hX hY W
  replace hb0 := Lib.hid hb0
  replace hz := Lib.hid hz
  replace hcs := Lib.hid hcs
  replace eV := Lib.hid eV
  go_enter Try.func9, Try.ntmps9
  go_wp2_with fail
  rw [← eV.out]
  obtain ⟨k0, k1, k2, k3, k4, k5, k6, k7, k8, k9⟩ := hcs.out _ (Below.refl _ _)
  go_wp2_with fail
  refine (GR.out _).mono ?_
  rintro e w1 ⟨rfl, hb1⟩
  have hb1 := (Below.refl (w.heap.size + 3) V).trans (hb1.mono (Nat.le_of_eq hz.out.symm))
  obtain ⟨k0, k1, k2, k3, k4, k5, k6, k7, k8, k9⟩ := hcs.out _ hb1
  go_wp2_with fail
  refine (D1.out _ hb1).mono ?_
  rintro e w2 ⟨rfl, hb2⟩
  have hb2 := hb1.trans (hb2.mono (by have := hb1.size; have := hz.out; omega))
  clear hb1
  obtain ⟨k0, k1, k2, k3, k4, k5, k6, k7, k8, k9⟩ := hcs.out _ hb2
  go_wp2_with fail
  refine (D2.out _ hb2).mono ?_
  rintro e w3 ⟨rfl, hb3⟩
  have hb3 := hb2.trans (hb3.mono (by have := hb2.size; have := hz.out; omega))
  clear hb2
  obtain ⟨k0, k1, k2, k3, k4, k5, k6, k7, k8, k9⟩ := hcs.out _ hb3
  go_upto_region 5 with (fail)
  by_cases hE1 : E1 = 0
  · subst hE1
    by_cases hE2 : E2 = 0
    · subst hE2
      have q0 := H1.out rfl rfl
      go_wp2_with fail
      refine (C1.out _ hb3).mono ?_
      rintro e w4 ⟨rfl, hb4⟩
      have hb4 := hb3.trans (hb4.mono (by have := hb3.size; have := hz.out; omega))
      clear hb3
      obtain ⟨k0, k1, k2, k3, k4, k5, k6, k7, k8, k9⟩ := hcs.out _ hb4
      go_wp2_with fail
      refine (C2.out _ hb4).mono ?_
      rintro e w5 ⟨rfl, hb5⟩
      have hb5 := hb4.trans (hb5.mono (by have := hb4.size; have := hz.out; omega))
      clear hb4
      obtain ⟨k0, k1, k2, k3, k4, k5, k6, k7, k8, k9⟩ := hcs.out _ hb5
      go_wp2_with fail
      refine (D3.out _ hb5).mono ?_
      rintro e w6 ⟨rfl, hb6⟩
      have hb6 := hb5.trans (hb6.mono (by have := hb5.size; have := hz.out; omega))
      clear hb5
      obtain ⟨k0, k1, k2, k3, k4, k5, k6, k7, k8, k9⟩ := hcs.out _ hb6
      go_upto_region 10 with (fail)
      cases g
      · clear H1 H2
        go_wp2_with fail
        refine (LV.out _).mono ?_
        rintro e w7 ⟨rfl, hb7⟩
        have hb7 := hb6.trans (hb7.mono (by have := hb6.size; have := hz.out; omega))
        clear hb6
        go_wp2
        go_ret
        exact ⟨rfl, hb0.out.trans (hb7.mono (by omega))⟩
      · by_cases hE3 : E3 = 0
        · subst hE3
          obtain ⟨g1, g2⟩ := H2.out (by simp) (by simp) (by simp)
          rcases Int.lt_trichotomy c d with h | h | h
          · have q := g1 (by omega)
            clear g1 g2 H1 H2
            go_wp2_with fail
            refine (LV.out _).mono ?_
            rintro e w7 ⟨rfl, hb7⟩
            have hb7 := hb6.trans (hb7.mono (by have := hb6.size; have := hz.out; omega))
            clear hb6
            go_wp2
            go_ret
            exact ⟨rfl, hb0.out.trans (hb7.mono (by omega))⟩
          · have q := g1 (by omega)
            have q2 := g2 (by omega)
            obtain rfl : Q1 = Q3 := by omega
            subst h
            clear g1 g2 H1 H2
            go_wp2_with fail
            refine (LV.out _).mono ?_
            rintro e w7 ⟨rfl, hb7⟩
            have hb7 := hb6.trans (hb7.mono (by have := hb6.size; have := hz.out; omega))
            clear hb6
            go_wp2
            go_ret
            exact ⟨rfl, hb0.out.trans (hb7.mono (by omega))⟩
          · have q := g2 (by omega)
            clear g1 g2 H1 H2
            go_wp2_with fail
            refine (LV.out _).mono ?_
            rintro e w7 ⟨rfl, hb7⟩
            have hb7 := hb6.trans (hb7.mono (by have := hb6.size; have := hz.out; omega))
            clear hb6
            go_wp2
            go_ret
            exact ⟨rfl, hb0.out.trans (hb7.mono (by omega))⟩
        · have z : (E3 == 0) = false := by simp [hE3]
          clear H1 H2 hE3
          go_wp2_with fail
          refine (LV.out _).mono ?_
          rintro e w7 ⟨rfl, hb7⟩
          have hb7 := hb6.trans (hb7.mono (by have := hb6.size; have := hz.out; omega))
          clear hb6
          go_wp2
          go_ret
          exact ⟨rfl, hb0.out.trans (hb7.mono (by omega))⟩
    · have z0 : (E2 == 0) = false := by simp [hE2]
      clear hE2
      go_wp2_with fail
      refine (C1.out _ hb3).mono ?_
      rintro e w4 ⟨rfl, hb4⟩
      have hb4 := hb3.trans (hb4.mono (by have := hb3.size; have := hz.out; omega))
      clear hb3
      obtain ⟨k0, k1, k2, k3, k4, k5, k6, k7, k8, k9⟩ := hcs.out _ hb4
      go_wp2_with fail
      refine (C2.out _ hb4).mono ?_
      rintro e w5 ⟨rfl, hb5⟩
      have hb5 := hb4.trans (hb5.mono (by have := hb4.size; have := hz.out; omega))
      clear hb4
      obtain ⟨k0, k1, k2, k3, k4, k5, k6, k7, k8, k9⟩ := hcs.out _ hb5
      go_wp2_with fail
      refine (D3.out _ hb5).mono ?_
      rintro e w6 ⟨rfl, hb6⟩
      have hb6 := hb5.trans (hb6.mono (by have := hb5.size; have := hz.out; omega))
      clear hb5
      obtain ⟨k0, k1, k2, k3, k4, k5, k6, k7, k8, k9⟩ := hcs.out _ hb6
      go_upto_region 10 with (fail)
      cases g
      · clear H1 H2
        go_wp2_with fail
        refine (LV.out _).mono ?_
        rintro e w7 ⟨rfl, hb7⟩
        have hb7 := hb6.trans (hb7.mono (by have := hb6.size; have := hz.out; omega))
        clear hb6
        go_wp2
        go_ret
        exact ⟨rfl, hb0.out.trans (hb7.mono (by omega))⟩
      · by_cases hE3 : E3 = 0
        · subst hE3
          obtain ⟨g1, g2⟩ := H2.out (by simp) (by simp) (by simp)
          rcases Int.lt_trichotomy c d with h | h | h
          · have q := g1 (by omega)
            clear g1 g2 H1 H2
            go_wp2_with fail
            refine (LV.out _).mono ?_
            rintro e w7 ⟨rfl, hb7⟩
            have hb7 := hb6.trans (hb7.mono (by have := hb6.size; have := hz.out; omega))
            clear hb6
            go_wp2
            go_ret
            exact ⟨rfl, hb0.out.trans (hb7.mono (by omega))⟩
          · have q := g1 (by omega)
            have q2 := g2 (by omega)
            obtain rfl : Q1 = Q3 := by omega
            subst h
            clear g1 g2 H1 H2
            go_wp2_with fail
            refine (LV.out _).mono ?_
            rintro e w7 ⟨rfl, hb7⟩
            have hb7 := hb6.trans (hb7.mono (by have := hb6.size; have := hz.out; omega))
            clear hb6
            go_wp2
            go_ret
            exact ⟨rfl, hb0.out.trans (hb7.mono (by omega))⟩
          · have q := g2 (by omega)
            clear g1 g2 H1 H2
            go_wp2_with fail
            refine (LV.out _).mono ?_
            rintro e w7 ⟨rfl, hb7⟩
            have hb7 := hb6.trans (hb7.mono (by have := hb6.size; have := hz.out; omega))
            clear hb6
            go_wp2
            go_ret
            exact ⟨rfl, hb0.out.trans (hb7.mono (by omega))⟩
        · have z : (E3 == 0) = false := by simp [hE3]
          clear H1 H2 hE3
          go_wp2_with fail
          refine (LV.out _).mono ?_
          rintro e w7 ⟨rfl, hb7⟩
          have hb7 := hb6.trans (hb7.mono (by have := hb6.size; have := hz.out; omega))
          clear hb6
          go_wp2
          go_ret
          exact ⟨rfl, hb0.out.trans (hb7.mono (by omega))⟩
  · have z1 : (E1 == 0) = false := by simp [hE1]
    clear hE1 H1 H2
    go_wp2_with fail
    refine (C1.out _ hb3).mono ?_
    rintro e w4 ⟨rfl, hb4⟩
    have hb4 := hb3.trans (hb4.mono (by have := hb3.size; have := hz.out; omega))
    clear hb3
    obtain ⟨k0, k1, k2, k3, k4, k5, k6, k7, k8, k9⟩ := hcs.out _ hb4
    go_wp2_with fail
    refine (C2.out _ hb4).mono ?_
    rintro e w5 ⟨rfl, hb5⟩
    have hb5 := hb4.trans (hb5.mono (by have := hb4.size; have := hz.out; omega))
    clear hb4
    obtain ⟨k0, k1, k2, k3, k4, k5, k6, k7, k8, k9⟩ := hcs.out _ hb5
    go_wp2_with fail
    refine (D3.out _ hb5).mono ?_
    rintro e w6 ⟨rfl, hb6⟩
    have hb6 := hb5.trans (hb6.mono (by have := hb5.size; have := hz.out; omega))
    clear hb5
    obtain ⟨k0, k1, k2, k3, k4, k5, k6, k7, k8, k9⟩ := hcs.out _ hb6
    go_upto_region 10 with (fail)
    cases g
    all_goals
      go_wp2_with fail
      refine (LV.out _).mono ?_
      rintro e w7 ⟨rfl, hb7⟩
      have hb7 := hb6.trans (hb7.mono (by have := hb6.size; have := hz.out; omega))
      clear hb6
      go_wp2
      go_ret
      exact ⟨rfl, hb0.out.trans (hb7.mono (by omega))⟩
end Go.Proofs.Ytmmenpaodofahaa
