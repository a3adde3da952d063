/- Package lift and the document on it, by values; walked. -/
import Derived.Test.YtmmenpaodofahaaCurveF
import Derived.Test.YtmmenpaodofahaaCurve8a
import Derived.Test.YtmmenpaodofahaaClip09
namespace Go.Proofs.Ytmmenpaodofahaa
open Go.ChangeShapes Go.WideShapes Go.ChangeAt Go.RowKit
set_option linter.unusedVariables false
set_option linter.unusedSimpArgs false

def betB (n m : Int) : Bool := decide (1 ≤ n) && decide (n ≤ m)
theorem betB_at {n m : Int} (h : betB n m = true) : 1 ≤ n ∧ n ≤ m := by unfold betB at h; simpa using h
theorem betB_no {n m : Int} (h : betB n m = false) : n < 1 ∨ (1 ≤ n ∧ m < n) := by
  unfold betB at h
  simp at h
  by_cases e : 1 ≤ n
  · exact .inr ⟨e, h e⟩
  · exact .inl (by omega)
def wgB (X Y : List Int) (a l : Int) : Bool := rgtB X Y && betB a 100000000 && betB l 1000000
/-- What pressure a coefficient asks for, and whether there is one. -/
def dyB (c a x y : Int) : Bool := flB (y * x) 6400000 (a * min c 68719476736)
def dyV (c a l x y : Int) : Int := if c < l then 0 else flV (y * x) 6400000 (a * min c 68719476736)
def dyE (c a l x y : Int) : Int := if c < l then 8 else if dyB c a x y then 0 else 9
noncomputable def lQ (X Y : List Int) (a l t x y : Int) : Int := if wgB X Y a l && (betB x 10000 && betB y 100000000) then dyV (crF X Y t) a l x y else 0
noncomputable def lE (X Y : List Int) (a l t x y : Int) : Int := if wgB X Y a l then (if betB x 10000 && betB y 100000000 then dyE (crF X Y t) a l x y else 2) else 1
theorem wgB_at {X Y : List Int} {a l : Int} (h : wgB X Y a l = true) : rgtB X Y = true ∧ betB a 100000000 = true ∧ betB l 1000000 = true := by
  unfold wgB at h
  simp only [Bool.and_eq_true] at h
  exact ⟨h.1.1, h.1.2, h.2⟩
theorem flV_no {a b c : Int} (h : flB a b c = false) : flV a b c = 0 := by unfold flV; rw [h]; rfl

set_option maxHeartbeats 1000000 in
theorem lbetw_any (n m : Int) (w : World) : Calls Try.prog 74 #[.int .i64 n, .int .i64 m] w fun e w' => e = .returned (.bool (betB n m)) ∧ w = w' := by
  cases h : betB n m
  · rcases betB_no h with g | ⟨g, g'⟩
    all_goals
      go_enter Try.func74, Try.ntmps74
      go_wp2
      go_ret
      exact ⟨ret_bool (by first | rfl | (simp; omega)), rfl⟩
  · obtain ⟨g, g'⟩ := betB_at h
    go_enter Try.func74, Try.ntmps74
    go_wp2
    go_ret
    exact ⟨ret_bool (by first | rfl | (simp; omega)), rfl⟩
theorem wng_box (w : World) (ax ay : Option Addr) (cx cy : Nat) (X Y : List Int) (a l : Int) : ∃ V, V = (w.alloc (.cells #[.slice ax X.length cx, .slice ay Y.length cy, .int .i64 a, .int .i64 l] 43)) ∧ Below w.heap.size w V ∧ V.heap.size = w.heap.size + 1 ∧ ∀ u, Below (w.heap.size + 1) V u → u.cell? ⟨w.heap.size, 0, none⟩ = some (.slice ax X.length cx) ∧ u.cell? ⟨w.heap.size, 1, none⟩ = some (.slice ay Y.length cy) ∧ u.cell? ⟨w.heap.size, 2, none⟩ = some (.int .i64 a) ∧ u.cell? ⟨w.heap.size, 3, none⟩ = some (.int .i64 l) :=
  ⟨_, rfl, (by repeat (first | exact Below.refl _ _ | assumption | apply Below.drew | apply below_drewN | (refine Below.alloc ?_ (by first | exact Nat.le_refl _ | omega | (simp <;> omega)) _) | (refine Below.setCell ?_ (by first | exact Nat.le_refl _ | omega | (simp <;> omega)) _))), by simp, fun u hu => ⟨(bc hu (by omega)).trans (by go_simp), (bc hu (by omega)).trans (by go_simp), (bc hu (by omega)).trans (by go_simp), (bc hu (by omega)).trans (by go_simp)⟩⟩
theorem fli_box (w : World) (ax ay : Option Addr) (cx cy : Nat) (X Y : List Int) (a l : Int) (c : Int) : ∃ V, V = (w.alloc (.cells #[.slice ax X.length cx, .slice ay Y.length cy, .int .i64 a, .int .i64 l, .int .i64 c] 112)) ∧ Below w.heap.size w V ∧ V.heap.size = w.heap.size + 1 ∧ ∀ u, Below (w.heap.size + 1) V u → u.cell? ⟨w.heap.size, 0, none⟩ = some (.slice ax X.length cx) ∧ u.cell? ⟨w.heap.size, 1, none⟩ = some (.slice ay Y.length cy) ∧ u.cell? ⟨w.heap.size, 2, none⟩ = some (.int .i64 a) ∧ u.cell? ⟨w.heap.size, 3, none⟩ = some (.int .i64 l) ∧ u.cell? ⟨w.heap.size, 4, none⟩ = some (.int .i64 c) :=
  ⟨_, rfl, (by repeat (first | exact Below.refl _ _ | assumption | apply Below.drew | apply below_drewN | (refine Below.alloc ?_ (by first | exact Nat.le_refl _ | omega | (simp <;> omega)) _) | (refine Below.setCell ?_ (by first | exact Nat.le_refl _ | omega | (simp <;> omega)) _))), by simp, fun u hu => ⟨(bc hu (by omega)).trans (by go_simp), (bc hu (by omega)).trans (by go_simp), (bc hu (by omega)).trans (by go_simp), (bc hu (by omega)).trans (by go_simp), (bc hu (by omega)).trans (by go_simp)⟩⟩
theorem cr8_box (w : World) (ax ay : Option Addr) (cx cy : Nat) (X Y : List Int) : ∃ V, V = (w.alloc (.cells #[.slice ax X.length cx, .slice ay Y.length cy] 24)) ∧ Below w.heap.size w V ∧ V.heap.size = w.heap.size + 1 ∧ ∀ u, Below (w.heap.size + 1) V u → u.cell? ⟨w.heap.size, 0, none⟩ = some (.slice ax X.length cx) ∧ u.cell? ⟨w.heap.size, 1, none⟩ = some (.slice ay Y.length cy) :=
  ⟨_, rfl, (by repeat (first | exact Below.refl _ _ | assumption | apply Below.drew | apply below_drewN | (refine Below.alloc ?_ (by first | exact Nat.le_refl _ | omega | (simp <;> omega)) _) | (refine Below.setCell ?_ (by first | exact Nat.le_refl _ | omega | (simp <;> omega)) _))), by simp, fun u hu => ⟨(bc hu (by omega)).trans (by go_simp), (bc hu (by omega)).trans (by go_simp)⟩⟩
theorem cr9_box (w : World) (ax ay : Option Addr) (cx cy : Nat) (X Y : List Int) (x0 x1 x2 : Int) : ∃ V, V = ((w.alloc (.cells #[.slice ax X.length cx, .slice ay Y.length cy] 24)).alloc (.cells #[.int .i64 x0, .int .i64 x1, .int .i64 x2] 44)) ∧ Below w.heap.size w V ∧ V.heap.size = w.heap.size + 2 ∧ ∀ u, Below (w.heap.size + 2) V u → u.cell? ⟨w.heap.size, 0, none⟩ = some (.slice ax X.length cx) ∧ u.cell? ⟨w.heap.size, 1, none⟩ = some (.slice ay Y.length cy) ∧ u.cell? ⟨w.heap.size + 1, 0, none⟩ = some (.int .i64 x0) ∧ u.cell? ⟨w.heap.size + 1, 1, none⟩ = some (.int .i64 x1) ∧ u.cell? ⟨w.heap.size + 1, 2, none⟩ = some (.int .i64 x2) :=
  ⟨_, rfl, (by repeat (first | exact Below.refl _ _ | assumption | apply Below.drew | apply below_drewN | (refine Below.alloc ?_ (by first | exact Nat.le_refl _ | omega | (simp <;> omega)) _) | (refine Below.setCell ?_ (by first | exact Nat.le_refl _ | omega | (simp <;> omega)) _))), by simp, fun u hu => ⟨(bc hu (by omega)).trans (by go_simp), (bc hu (by omega)).trans (by go_simp), (bc hu (by omega)).trans (by go_simp), (bc hu (by omega)).trans (by go_simp), (bc hu (by omega)).trans (by go_simp)⟩⟩
set_option maxRecDepth 100000 in
set_option maxHeartbeats 8000000 in
theorem lright2 (ax ay : Option Addr) (cx cy : Nat) (X Y : List Int) (a l : Int) (w : World) (hx : RowIs .i64 w ax X) (hy : RowIs .i64 w ay Y) (hX : X.length ≤ 300) (hY : Y.length ≤ 300) :
    Calls Try.prog 33 #[.agg #[.slice ax X.length cx, .slice ay Y.length cy, .int .i64 a, .int .i64 l]] w fun e w' => e = .returned (.bool (wgB X Y a l)) ∧ Below w.heap.size w w' := by
  obtain ⟨V, eV, hb0, hz, hcs⟩ := wng_box w ax ay cx cy X Y a l
  have RT := fun u (h : Below (w.heap.size + 1) V u) => cright_any ax ay cx cy X Y u (hx.below (hb0.trans (h.mono (by omega)))) (hy.below (hb0.trans (h.mono (by omega)))) hX hY
  have BA := fun u => lbetw_any a 100000000 u
  have BL := fun u => lbetw_any l 1000000 u
  unfold wgB
  clear hx hy hX hY
  generalize rgtB X Y = r at *
  generalize betB a 100000000 = p at *
  generalize betB l 1000000 = q at *
  replace RT := Lib.hid RT
  replace BA := Lib.hid BA
  replace BL := Lib.hid BL
  replace hb0 := Lib.hid hb0
  replace hz := Lib.hid hz
  replace hcs := Lib.hid hcs
  replace eV := Lib.hid eV
  cases r
  · clear BA BL
    go_enter Try.func33, Try.ntmps33
    go_wp2_with fail
    rw [← eV.out]
    obtain ⟨k0, k1, k2, k3⟩ := hcs.out _ (Below.refl _ _)
    go_wp2_with fail
    refine (RT.out _ (Below.refl _ _)).mono ?_
    rintro e w1 ⟨rfl, hb1⟩
    have hb1 := (Below.refl (w.heap.size + 1) V).trans (hb1.mono (Nat.le_of_eq hz.out.symm))
    obtain ⟨k0, k1, k2, k3⟩ := hcs.out _ hb1
    go_wp2
    go_ret
    exact ⟨rfl, hb0.out.trans (hb1.mono (by omega))⟩
  · cases p
    · clear BL
      go_enter Try.func33, Try.ntmps33
      go_wp2_with fail
      rw [← eV.out]
      obtain ⟨k0, k1, k2, k3⟩ := hcs.out _ (Below.refl _ _)
      go_wp2_with fail
      refine (RT.out _ (Below.refl _ _)).mono ?_
      rintro e w1 ⟨rfl, hb1⟩
      have hb1 := (Below.refl (w.heap.size + 1) V).trans (hb1.mono (Nat.le_of_eq hz.out.symm))
      obtain ⟨k0, k1, k2, k3⟩ := hcs.out _ hb1
      go_wp2_with fail
      refine (BA.out _).mono ?_
      rintro e w2 ⟨rfl, rfl⟩
      go_wp2
      go_ret
      exact ⟨rfl, hb0.out.trans (hb1.mono (by omega))⟩
    · cases q
      all_goals
        go_enter Try.func33, Try.ntmps33
        go_wp2_with fail
        rw [← eV.out]
        obtain ⟨k0, k1, k2, k3⟩ := hcs.out _ (Below.refl _ _)
        go_wp2_with fail
        refine (RT.out _ (Below.refl _ _)).mono ?_
        rintro e w1 ⟨rfl, hb1⟩
        have hb1 := (Below.refl (w.heap.size + 1) V).trans (hb1.mono (Nat.le_of_eq hz.out.symm))
        obtain ⟨k0, k1, k2, k3⟩ := hcs.out _ hb1
        go_wp2_with fail
        refine (BA.out _).mono ?_
        rintro e w2 ⟨rfl, rfl⟩
        go_wp2_with fail
        refine (BL.out _).mono ?_
        rintro e w3 ⟨rfl, rfl⟩
        go_wp2
        go_ret
        exact ⟨rfl, hb0.out.trans (hb1.mono (by omega))⟩
set_option maxRecDepth 100000 in
set_option maxHeartbeats 8000000 in
theorem lcoef2 (ax ay : Option Addr) (cx cy : Nat) (X Y : List Int) (a l : Int) (t : Int) (w : World) (hx : RowIs .i64 w ax X) (hy : RowIs .i64 w ay Y) (hX : X.length ≤ 300) (hY : Y.length ≤ 300) :
    Calls Try.prog 30 #[.agg #[.slice ax X.length cx, .slice ay Y.length cy, .int .i64 a, .int .i64 l], .int .i64 t] w fun e w' => e = .returned (.tuple #[.int .i64 (if wgB X Y a l then crF X Y t else 0), .bool (wgB X Y a l)]) ∧ Below w.heap.size w w' := by
  obtain ⟨V, eV, hb0, hz, hcs⟩ := wng_box w ax ay cx cy X Y a l
  have RT := fun u (h : Below (w.heap.size + 1) V u) => lright2 ax ay cx cy X Y a l u (hx.below (hb0.trans (h.mono (by omega)))) (hy.below (hb0.trans (h.mono (by omega)))) hX hY
  have AT := fun u (h : Below (w.heap.size + 1) V u) => cat5f ax ay cx cy X Y t u (hx.below (hb0.trans (h.mono (by omega)))) (hy.below (hb0.trans (h.mono (by omega)))) hX hY
  cases hw : wgB X Y a l
  · rw [hw] at RT
    replace RT := Lib.hid RT
    simp only [Bool.false_eq_true, if_false]
    clear AT hx hy hX hY hw
    replace hb0 := Lib.hid hb0
    replace hz := Lib.hid hz
    replace hcs := Lib.hid hcs
    replace eV := Lib.hid eV
    go_enter Try.func30, Try.ntmps30
    go_wp2_with fail
    rw [← eV.out]
    obtain ⟨k0, k1, k2, k3⟩ := hcs.out _ (Below.refl _ _)
    go_wp2_with fail
    refine (RT.out _ (Below.refl _ _)).mono ?_
    rintro e w1 ⟨rfl, hb1⟩
    have hb1 := (Below.refl (w.heap.size + 1) V).trans (hb1.mono (Nat.le_of_eq hz.out.symm))
    obtain ⟨k0, k1, k2, k3⟩ := hcs.out _ hb1
    go_wp2
    go_ret2
    exact ⟨rfl, hb0.out.trans (hb1.mono (by omega))⟩
  · rw [hw] at RT
    rw [(wgB_at hw).1] at AT
    simp only [if_true] at AT ⊢
    replace RT := Lib.hid RT
    replace AT := Lib.hid AT
    generalize crF X Y t = v at *
    clear hx hy hX hY hw
    replace hb0 := Lib.hid hb0
    replace hz := Lib.hid hz
    replace hcs := Lib.hid hcs
    replace eV := Lib.hid eV
    go_enter Try.func30, Try.ntmps30
    go_wp2_with fail
    rw [← eV.out]
    obtain ⟨k0, k1, k2, k3⟩ := hcs.out _ (Below.refl _ _)
    go_wp2_with fail
    refine (RT.out _ (Below.refl _ _)).mono ?_
    rintro e w1 ⟨rfl, hb1⟩
    have hb1 := (Below.refl (w.heap.size + 1) V).trans (hb1.mono (Nat.le_of_eq hz.out.symm))
    obtain ⟨k0, k1, k2, k3⟩ := hcs.out _ hb1
    go_wp2_with fail
    refine (AT.out _ hb1).mono ?_
    rintro e w2 ⟨rfl, hb2⟩
    have hb2 := hb1.trans (hb2.mono (by have := hb1.size; have := hz.out; omega))
    clear hb1
    obtain ⟨k0, k1, k2, k3⟩ := hcs.out _ hb2
    go_wp2
    go_ret2
    exact ⟨rfl, hb0.out.trans (hb2.mono (by omega))⟩
set_option maxRecDepth 100000 in
set_option maxHeartbeats 8000000 in
theorem ldyn2 (ax ay : Option Addr) (cx cy : Nat) (X Y : List Int) (a l : Int) (c x y : Int) (w : World) (ha : betB a 100000000 = true) (hl : betB l 1000000 = true) (hx : betB x 10000 = true) (hy : betB y 100000000 = true) :
    Calls Try.prog 75 #[.agg #[.slice ax X.length cx, .slice ay Y.length cy, .int .i64 a, .int .i64 l, .int .i64 c], .int .i64 x, .int .i64 y] w fun e w' => e = .returned (.tuple #[.int .i64 (dyV c a l x y), .int .i64 (dyE c a l x y)]) ∧ Below w.heap.size w w' := by
  obtain ⟨a1, a2⟩ := betB_at ha
  obtain ⟨l1, l2⟩ := betB_at hl
  obtain ⟨x1, x2⟩ := betB_at hx
  obtain ⟨y1, y2⟩ := betB_at hy
  obtain ⟨V, eV, hb0, hz, hcs⟩ := fli_box w ax ay cx cy X Y a l c
  replace hb0 := Lib.hid hb0
  replace hz := Lib.hid hz
  replace hcs := Lib.hid hcs
  replace eV := Lib.hid eV
  clear ha hl hx hy
  by_cases hc : c < l
  · rw [show dyV c a l x y = 0 from if_pos hc, show dyE c a l x y = 8 from if_pos hc]
    go_enter Try.func75, Try.ntmps75
    go_wp2_with fail
    rw [← eV.out]
    obtain ⟨k0, k1, k2, k3, k4⟩ := hcs.out _ (Below.refl _ _)
    go_wp2
    go_ret2
    exact ⟨rfl, hb0.out⟩
  · have xy0 : 0 ≤ y * x := Int.mul_nonneg (by omega) (by omega)
    have xy1 : y * x ≤ 100000000 * 10000 := Int.mul_le_mul y2 x2 (by omega) (by omega)
    have hw1 : IntKind.i64.wrap (y * x) = y * x := IntWalk.i64_in _ ⟨by omega, by omega⟩
    rw [show dyV c a l x y = flV (y * x) 6400000 (a * min c 68719476736) from if_neg hc, show dyE c a l x y = if dyB c a x y then 0 else 9 from if_neg hc]
    unfold dyB
    have m1 : 1 ≤ min c 68719476736 := by omega
    have m2 : min c 68719476736 ≤ 68719476736 := by omega
    have ac0 : 0 ≤ a * min c 68719476736 := Int.mul_nonneg (by omega) (by omega)
    have ac1 : a * min c 68719476736 ≤ 100000000 * 68719476736 := Int.mul_le_mul a2 m2 (by omega) (by omega)
    have hw2 : IntKind.i64.wrap (a * min c 68719476736) = a * min c 68719476736 := IntWalk.i64_in _ ⟨by omega, by omega⟩
    have FL := fun u => floor_any (y * x) 6400000 (a * min c 68719476736) u (by omega) (by omega) (by omega) (by omega) (by omega) (by omega)
    have hlc : l ≤ c := by omega
    clear xy0 xy1 ac0 ac1 x1 x2 y1 y2 a1 a2 l1 l2 hc m1 m2
    have HF := Lib.hid (fun (h : flB (y * x) 6400000 (a * min c 68719476736) = false) => flV_no h)
    cases hB : flB (y * x) 6400000 (a * min c 68719476736)
    all_goals
      rw [hB] at FL
      first | rw [HF.out hB] at FL ⊢ | skip
      clear HF
      simp only [Bool.false_eq_true, if_false, if_true]
      first | generalize flV (y * x) 6400000 (a * min c 68719476736) = F at * | skip
      replace FL := Lib.hid FL
      clear hB
      go_enter Try.func75, Try.ntmps75
      go_wp2_with fail
      rw [← eV.out]
      obtain ⟨k0, k1, k2, k3, k4⟩ := hcs.out _ (Below.refl _ _)
      go_wp2_with fail
      refine (FL.out _).mono ?_
      rintro e w1 ⟨rfl, hb1⟩
      have hb1 := (Below.refl (w.heap.size + 1) V).trans (hb1.mono (Nat.le_of_eq hz.out.symm))
      go_wp2
      go_ret2
      exact ⟨rfl, hb0.out.trans (hb1.mono (by omega))⟩
set_option maxRecDepth 100000 in
set_option maxHeartbeats 8000000 in
theorem ldynamic2 (ax ay : Option Addr) (cx cy : Nat) (X Y : List Int) (a l : Int) (t x y : Int) (w : World) (hx : RowIs .i64 w ax X) (hy : RowIs .i64 w ay Y) (hX : X.length ≤ 300) (hY : Y.length ≤ 300) :
    Calls Try.prog 31 #[.agg #[.slice ax X.length cx, .slice ay Y.length cy, .int .i64 a, .int .i64 l], .int .i64 t, .int .i64 x, .int .i64 y] w fun e w' => e = .returned (.tuple #[.int .i64 (lQ X Y a l t x y), .int .i64 (lE X Y a l t x y)]) ∧ Below w.heap.size w w' := by
  obtain ⟨V, eV, hb0, hz, hcs⟩ := wng_box w ax ay cx cy X Y a l
  have CF := fun u (h : Below (w.heap.size + 1) V u) => lcoef2 ax ay cx cy X Y a l t u (hx.below (hb0.trans (h.mono (by omega)))) (hy.below (hb0.trans (h.mono (by omega)))) hX hY
  have BX := fun u => lbetw_any x 10000 u
  have BY := fun u => lbetw_any y 100000000 u
  unfold lQ lE
  cases hw : wgB X Y a l
  · rw [hw] at CF
    simp only [Bool.false_eq_true, if_false, Bool.false_and] at CF ⊢
    replace CF := Lib.hid CF
    clear hx hy hX hY hw BX BY
    replace hb0 := Lib.hid hb0
    replace hz := Lib.hid hz
    replace hcs := Lib.hid hcs
    replace eV := Lib.hid eV
    go_enter Try.func31, Try.ntmps31
    go_wp2_with fail
    rw [← eV.out]
    obtain ⟨k0, k1, k2, k3⟩ := hcs.out _ (Below.refl _ _)
    go_wp2_with fail
    refine (CF.out _ (Below.refl _ _)).mono ?_
    rintro e w1 ⟨rfl, hb1⟩
    have hb1 := (Below.refl (w.heap.size + 1) V).trans (hb1.mono (Nat.le_of_eq hz.out.symm))
    obtain ⟨k0, k1, k2, k3⟩ := hcs.out _ hb1
    go_wp2
    go_ret2
    exact ⟨rfl, hb0.out.trans (hb1.mono (by omega))⟩
  · rw [hw] at CF
    simp only [if_true, Bool.true_and] at CF ⊢
    obtain ⟨-, wa, wl⟩ := wgB_at hw
    have DY := fun u h1 h2 => ldyn2 ax ay cx cy X Y a l (crF X Y t) x y u wa wl h1 h2
    replace CF := Lib.hid CF
    generalize crF X Y t = c at *
    clear hx hy hX hY hw wa wl
    cases hX : betB x 10000
    · rw [hX] at BX
      simp only [Bool.false_eq_true, if_false, Bool.false_and]
      replace BX := Lib.hid BX
      clear BY DY hX
      replace hb0 := Lib.hid hb0
      replace hz := Lib.hid hz
      replace hcs := Lib.hid hcs
      replace eV := Lib.hid eV
      go_enter Try.func31, Try.ntmps31
      go_wp2_with fail
      rw [← eV.out]
      obtain ⟨k0, k1, k2, k3⟩ := hcs.out _ (Below.refl _ _)
      go_wp2_with fail
      refine (CF.out _ (Below.refl _ _)).mono ?_
      rintro e w1 ⟨rfl, hb1⟩
      have hb1 := (Below.refl (w.heap.size + 1) V).trans (hb1.mono (Nat.le_of_eq hz.out.symm))
      obtain ⟨k0, k1, k2, k3⟩ := hcs.out _ hb1
      go_wp2_with fail
      refine (BX.out _).mono ?_
      rintro e w2 ⟨rfl, rfl⟩
      go_wp2
      go_ret2
      exact ⟨rfl, hb0.out.trans (hb1.mono (by omega))⟩
    · rw [hX] at BX
      replace BX := Lib.hid BX
      cases hY : betB y 100000000
      · rw [hY] at BY
        simp only [Bool.false_eq_true, if_false, Bool.and_false]
        replace BY := Lib.hid BY
        clear DY hX hY
        replace hb0 := Lib.hid hb0
        replace hz := Lib.hid hz
        replace hcs := Lib.hid hcs
        replace eV := Lib.hid eV
        go_enter Try.func31, Try.ntmps31
        go_wp2_with fail
        rw [← eV.out]
        obtain ⟨k0, k1, k2, k3⟩ := hcs.out _ (Below.refl _ _)
        go_wp2_with fail
        refine (CF.out _ (Below.refl _ _)).mono ?_
        rintro e w1 ⟨rfl, hb1⟩
        have hb1 := (Below.refl (w.heap.size + 1) V).trans (hb1.mono (Nat.le_of_eq hz.out.symm))
        obtain ⟨k0, k1, k2, k3⟩ := hcs.out _ hb1
        go_wp2_with fail
        refine (BX.out _).mono ?_
        rintro e w2 ⟨rfl, rfl⟩
        go_wp2_with fail
        refine (BY.out _).mono ?_
        rintro e w3 ⟨rfl, rfl⟩
        go_wp2
        go_ret2
        exact ⟨rfl, hb0.out.trans (hb1.mono (by omega))⟩
      · rw [hY] at BY
        simp only [if_true, Bool.and_true]
        replace BY := Lib.hid BY
        have DZ := Lib.hid (fun u => DY u hX hY)
        generalize dyV c a l x y = Q at *
        generalize dyE c a l x y = E at *
        clear DY hX hY
        replace hb0 := Lib.hid hb0
        replace hz := Lib.hid hz
        replace hcs := Lib.hid hcs
        replace eV := Lib.hid eV
        go_enter Try.func31, Try.ntmps31
        go_wp2_with fail
        rw [← eV.out]
        obtain ⟨k0, k1, k2, k3⟩ := hcs.out _ (Below.refl _ _)
        go_wp2_with fail
        refine (CF.out _ (Below.refl _ _)).mono ?_
        rintro e w1 ⟨rfl, hb1⟩
        have hb1 := (Below.refl (w.heap.size + 1) V).trans (hb1.mono (Nat.le_of_eq hz.out.symm))
        obtain ⟨k0, k1, k2, k3⟩ := hcs.out _ hb1
        go_wp2_with fail
        refine (BX.out _).mono ?_
        rintro e w2 ⟨rfl, rfl⟩
        go_wp2_with fail
        refine (BY.out _).mono ?_
        rintro e w3 ⟨rfl, rfl⟩
        go_wp2_with fail
        refine (DZ.out _).mono ?_
        rintro e w4 ⟨rfl, hb4⟩
        have hb4 := hb1.trans (hb4.mono (by have := hb1.size; have := hz.out; omega))
        clear hb1
        go_wp2
        go_ret2
        exact ⟨rfl, hb0.out.trans (hb4.mono (by omega))⟩
set_option maxRecDepth 100000 in
set_option maxHeartbeats 8000000 in
theorem rright18 (ax ay : Option Addr) (cx cy : Nat) (X Y : List Int) (a l : Int) (w : World) (hx : RowIs .i64 w ax X) (hy : RowIs .i64 w ay Y) (hX : X.length ≤ 300) (hY : Y.length ≤ 300) :
    Calls Try.prog 29 #[.agg #[.slice ax X.length cx, .slice ay Y.length cy], .int .i64 a, .int .i64 l] w fun e w' => e = .returned (.bool (wgB X Y a l)) ∧ Below w.heap.size w w' := by
  obtain ⟨V, eV, hb0, hz, hcs⟩ := cr8_box w ax ay cx cy X Y
  have RT := fun u (h : Below (w.heap.size + 1) V u) => rright5_any ax ay cx cy X Y u (hx.below (hb0.trans (h.mono (by omega)))) (hy.below (hb0.trans (h.mono (by omega)))) hX hY
  unfold wgB
  clear hx hy hX hY
  generalize rgtB X Y = r at *
  replace RT := Lib.hid RT
  replace hb0 := Lib.hid hb0
  replace hz := Lib.hid hz
  replace hcs := Lib.hid hcs
  replace eV := Lib.hid eV
  cases r
  · rw [Bool.false_and, Bool.false_and]
    go_enter Try.func29, Try.ntmps29
    go_wp2_with fail
    rw [← eV.out]
    obtain ⟨k0, k1⟩ := hcs.out _ (Below.refl _ _)
    go_wp2_with fail
    refine (RT.out _ (Below.refl _ _)).mono ?_
    rintro e w1 ⟨rfl, hb1⟩
    have hb1 := (Below.refl (w.heap.size + 1) V).trans (hb1.mono (Nat.le_of_eq hz.out.symm))
    obtain ⟨k0, k1⟩ := hcs.out _ hb1
    go_wp2
    go_ret
    exact ⟨ret_bool (by first | rfl | (simp; omega)), hb0.out.trans (hb1.mono (by omega))⟩
  · rw [Bool.true_and]
    cases ha : betB a 100000000
    · rw [Bool.false_and]
      rcases betB_no ha with g | ⟨g, g'⟩
      all_goals
        clear ha
        go_enter Try.func29, Try.ntmps29
        go_wp2_with fail
        rw [← eV.out]
        obtain ⟨k0, k1⟩ := hcs.out _ (Below.refl _ _)
        go_wp2_with fail
        refine (RT.out _ (Below.refl _ _)).mono ?_
        rintro e w1 ⟨rfl, hb1⟩
        have hb1 := (Below.refl (w.heap.size + 1) V).trans (hb1.mono (Nat.le_of_eq hz.out.symm))
        obtain ⟨k0, k1⟩ := hcs.out _ hb1
        go_wp2
        go_ret
        exact ⟨ret_bool (by first | rfl | (simp; omega)), hb0.out.trans (hb1.mono (by omega))⟩
    · rw [Bool.true_and]
      obtain ⟨a1, a2⟩ := betB_at ha
      cases hl : betB l 1000000
      · rcases betB_no hl with g | ⟨g, g'⟩
        all_goals
          clear ha hl
          go_enter Try.func29, Try.ntmps29
          go_wp2_with fail
          rw [← eV.out]
          obtain ⟨k0, k1⟩ := hcs.out _ (Below.refl _ _)
          go_wp2_with fail
          refine (RT.out _ (Below.refl _ _)).mono ?_
          rintro e w1 ⟨rfl, hb1⟩
          have hb1 := (Below.refl (w.heap.size + 1) V).trans (hb1.mono (Nat.le_of_eq hz.out.symm))
          obtain ⟨k0, k1⟩ := hcs.out _ hb1
          go_wp2
          go_ret
          exact ⟨ret_bool (by first | rfl | (simp; omega)), hb0.out.trans (hb1.mono (by omega))⟩
      · obtain ⟨l1, l2⟩ := betB_at hl
        clear ha hl
        go_enter Try.func29, Try.ntmps29
        go_wp2_with fail
        rw [← eV.out]
        obtain ⟨k0, k1⟩ := hcs.out _ (Below.refl _ _)
        go_wp2_with fail
        refine (RT.out _ (Below.refl _ _)).mono ?_
        rintro e w1 ⟨rfl, hb1⟩
        have hb1 := (Below.refl (w.heap.size + 1) V).trans (hb1.mono (Nat.le_of_eq hz.out.symm))
        obtain ⟨k0, k1⟩ := hcs.out _ hb1
        go_wp2
        go_ret
        exact ⟨ret_bool (by first | rfl | (simp; omega)), hb0.out.trans (hb1.mono (by omega))⟩
set_option maxRecDepth 100000 in
set_option maxHeartbeats 8000000 in
theorem rdynamic18 (ax ay : Option Addr) (cx cy : Nat) (X Y : List Int) (a l : Int) (x0 x1 x2 : Int) (w : World) (hx : RowIs .i64 w ax X) (hy : RowIs .i64 w ay Y) (hX : X.length ≤ 300) (hY : Y.length ≤ 300) :
    Calls Try.prog 32 #[.agg #[.slice ax X.length cx, .slice ay Y.length cy], .int .i64 a, .int .i64 l, .agg #[.int .i64 x0, .int .i64 x1, .int .i64 x2]] w fun e w' => e = .returned (.tuple #[.int .i64 (lQ X Y a l x0 x1 x2), .int .i64 (lE X Y a l x0 x1 x2)]) ∧ Below w.heap.size w w' := by
  obtain ⟨V, eV, hb0, hz, hcs⟩ := cr9_box w ax ay cx cy X Y x0 x1 x2
  have RT := fun u (h : Below (w.heap.size + 2) V u) => rright18 ax ay cx cy X Y a l u (hx.below (hb0.trans (h.mono (by omega)))) (hy.below (hb0.trans (h.mono (by omega)))) hX hY
  have AT := fun u (h : Below (w.heap.size + 2) V u) hg => rat5f ax ay cx cy X Y x0 u (hx.below (hb0.trans (h.mono (by omega)))) (hy.below (hb0.trans (h.mono (by omega)))) hg
  unfold lQ lE
  cases hw : wgB X Y a l
  · rw [hw] at RT
    simp only [Bool.false_eq_true, if_false, Bool.false_and]
    replace RT := Lib.hid RT
    clear hx hy hX hY hw AT
    replace hb0 := Lib.hid hb0
    replace hz := Lib.hid hz
    replace hcs := Lib.hid hcs
    replace eV := Lib.hid eV
    go_enter Try.func32, Try.ntmps32
    go_wp2_with fail
    rw [← eV.out]
    obtain ⟨k0, k1, k2, k3, k4⟩ := hcs.out _ (Below.refl _ _)
    go_wp2_with fail
    refine (RT.out _ (Below.refl _ _)).mono ?_
    rintro e w1 ⟨rfl, hb1⟩
    have hb1 := (Below.refl (w.heap.size + 2) V).trans (hb1.mono (Nat.le_of_eq hz.out.symm))
    obtain ⟨k0, k1, k2, k3, k4⟩ := hcs.out _ hb1
    go_wp2
    go_ret2
    exact ⟨rfl, hb0.out.trans (hb1.mono (by omega))⟩
  · rw [hw] at RT
    simp only [if_true, Bool.true_and]
    obtain ⟨wg, wa, wl⟩ := wgB_at hw
    replace RT := Lib.hid RT
    clear hx hy hX hY hw
    cases hp : betB x1 10000
    · simp only [Bool.false_eq_true, if_false, Bool.false_and]
      rcases betB_no hp with g | ⟨g, g'⟩
      all_goals
        clear AT wg wa wl hp
        replace hb0 := Lib.hid hb0
        replace hz := Lib.hid hz
        replace hcs := Lib.hid hcs
        replace eV := Lib.hid eV
        go_enter Try.func32, Try.ntmps32
        go_wp2_with fail
        rw [← eV.out]
        obtain ⟨k0, k1, k2, k3, k4⟩ := hcs.out _ (Below.refl _ _)
        go_wp2_with fail
        refine (RT.out _ (Below.refl _ _)).mono ?_
        rintro e w1 ⟨rfl, hb1⟩
        have hb1 := (Below.refl (w.heap.size + 2) V).trans (hb1.mono (Nat.le_of_eq hz.out.symm))
        obtain ⟨k0, k1, k2, k3, k4⟩ := hcs.out _ hb1
        go_wp2
        go_ret2
        exact ⟨rfl, hb0.out.trans (hb1.mono (by omega))⟩
    · obtain ⟨x1a, x1b⟩ := betB_at hp
      rw [Bool.true_and]
      cases hq : betB x2 100000000
      · simp only [Bool.false_eq_true, if_false]
        rcases betB_no hq with g | ⟨g, g'⟩
        all_goals
          clear AT wg wa wl hp hq
          replace hb0 := Lib.hid hb0
          replace hz := Lib.hid hz
          replace hcs := Lib.hid hcs
          replace eV := Lib.hid eV
          go_enter Try.func32, Try.ntmps32
          go_wp2_with fail
          rw [← eV.out]
          obtain ⟨k0, k1, k2, k3, k4⟩ := hcs.out _ (Below.refl _ _)
          go_wp2_with fail
          refine (RT.out _ (Below.refl _ _)).mono ?_
          rintro e w1 ⟨rfl, hb1⟩
          have hb1 := (Below.refl (w.heap.size + 2) V).trans (hb1.mono (Nat.le_of_eq hz.out.symm))
          obtain ⟨k0, k1, k2, k3, k4⟩ := hcs.out _ hb1
          go_wp2
          go_ret2
          exact ⟨rfl, hb0.out.trans (hb1.mono (by omega))⟩
      · obtain ⟨x2a, x2b⟩ := betB_at hq
        simp only [if_true]
        have AT1 := Lib.hid (fun u h => AT u h wg)
        generalize crF X Y x0 = c at *
        obtain ⟨a1, a2⟩ := betB_at wa
        obtain ⟨l1, l2⟩ := betB_at wl
        clear AT wg wa wl hp hq
        by_cases hc : c < l
        · rw [show dyV c a l x1 x2 = 0 from if_pos hc, show dyE c a l x1 x2 = 8 from if_pos hc]
          clear a1 a2 l1 l2
          replace hb0 := Lib.hid hb0
          replace hz := Lib.hid hz
          replace hcs := Lib.hid hcs
          replace eV := Lib.hid eV
          go_enter Try.func32, Try.ntmps32
          go_wp2_with fail
          rw [← eV.out]
          obtain ⟨k0, k1, k2, k3, k4⟩ := hcs.out _ (Below.refl _ _)
          go_wp2_with fail
          refine (RT.out _ (Below.refl _ _)).mono ?_
          rintro e w1 ⟨rfl, hb1⟩
          have hb1 := (Below.refl (w.heap.size + 2) V).trans (hb1.mono (Nat.le_of_eq hz.out.symm))
          obtain ⟨k0, k1, k2, k3, k4⟩ := hcs.out _ hb1
          go_wp2_with fail
          refine (AT1.out _ hb1).mono ?_
          rintro e w2 ⟨rfl, hb2⟩
          have hb2 := hb1.trans (hb2.mono (by have := hb1.size; have := hz.out; omega))
          clear hb1
          obtain ⟨k0, k1, k2, k3, k4⟩ := hcs.out _ hb2
          go_wp2
          go_ret2
          exact ⟨rfl, hb0.out.trans (hb2.mono (by omega))⟩
        · have xy0 : 0 ≤ x1 * x2 := Int.mul_nonneg (by omega) (by omega)
          have xy1 : x1 * x2 ≤ 10000 * 100000000 := Int.mul_le_mul x1b x2b (by omega) (by omega)
          have hw1 : IntKind.i64.wrap (x1 * x2) = x1 * x2 := IntWalk.i64_in _ ⟨by omega, by omega⟩
          rw [show dyV c a l x1 x2 = flV (x2 * x1) 6400000 (a * min c 68719476736) from if_neg hc, show dyE c a l x1 x2 = if dyB c a x1 x2 then 0 else 9 from if_neg hc]
          unfold dyB
          rw [Int.mul_comm x2 x1]
          obtain ⟨m, hm⟩ : ∃ m, m = min c 68719476736 := ⟨_, rfl⟩
          have m1 : 1 ≤ m := by omega
          have m2 : m ≤ 68719476736 := by omega
          have ac0 : 0 ≤ a * m := Int.mul_nonneg (by omega) (by omega)
          have ac1 : a * m ≤ 100000000 * 68719476736 := Int.mul_le_mul a2 m2 (by omega) (by omega)
          have hw2 : IntKind.i64.wrap (a * m) = a * m := IntWalk.i64_in _ ⟨by omega, by omega⟩
          have FL := fun u => rfloor_any (x1 * x2) 6400000 (a * m) u (by omega) (by omega) (by omega) (by omega) (by omega) (by omega)
          rw [← hm]
          have hlc : l ≤ c := by omega
          clear xy0 xy1 ac0 ac1 a1 a2 l1 l2 hc
          have HF := Lib.hid (fun (h : flB (x1 * x2) 6400000 (a * m) = false) => flV_no h)
          cases hB : flB (x1 * x2) 6400000 (a * m)
          all_goals
            rw [hB] at FL
            first | rw [HF.out hB] at FL ⊢ | skip
            clear HF
            simp only [Bool.false_eq_true, if_false, if_true]
            first | generalize flV (x1 * x2) 6400000 (a * m) = F at * | skip
            replace FL := Lib.hid FL
            clear hB
            by_cases hM : c ≤ 68719476736
            · obtain rfl : m = c := by omega
              clear hm m1 m2
              replace hb0 := Lib.hid hb0
              replace hz := Lib.hid hz
              replace hcs := Lib.hid hcs
              replace eV := Lib.hid eV
              go_enter Try.func32, Try.ntmps32
              go_wp2_with fail
              rw [← eV.out]
              obtain ⟨k0, k1, k2, k3, k4⟩ := hcs.out _ (Below.refl _ _)
              go_wp2_with fail
              refine (RT.out _ (Below.refl _ _)).mono ?_
              rintro e w1 ⟨rfl, hb1⟩
              have hb1 := (Below.refl (w.heap.size + 2) V).trans (hb1.mono (Nat.le_of_eq hz.out.symm))
              obtain ⟨k0, k1, k2, k3, k4⟩ := hcs.out _ hb1
              go_wp2_with fail
              refine (AT1.out _ hb1).mono ?_
              rintro e w2 ⟨rfl, hb2⟩
              have hb2 := hb1.trans (hb2.mono (by have := hb1.size; have := hz.out; omega))
              clear hb1
              obtain ⟨k0, k1, k2, k3, k4⟩ := hcs.out _ hb2
              go_wp2_with fail
              refine (FL.out _).mono ?_
              rintro e w3 ⟨rfl, hb3⟩
              have hb3 := hb2.trans (hb3.mono (by have := hb2.size; have := hz.out; omega))
              clear hb2
              go_wp2
              go_ret2
              exact ⟨rfl, hb0.out.trans (hb3.mono (by omega))⟩
            · obtain rfl : m = 68719476736 := by omega
              have hM' : 68719476736 < c := by omega
              clear hm m1 m2 hM
              replace hb0 := Lib.hid hb0
              replace hz := Lib.hid hz
              replace hcs := Lib.hid hcs
              replace eV := Lib.hid eV
              go_enter Try.func32, Try.ntmps32
              go_wp2_with fail
              rw [← eV.out]
              obtain ⟨k0, k1, k2, k3, k4⟩ := hcs.out _ (Below.refl _ _)
              go_wp2_with fail
              refine (RT.out _ (Below.refl _ _)).mono ?_
              rintro e w1 ⟨rfl, hb1⟩
              have hb1 := (Below.refl (w.heap.size + 2) V).trans (hb1.mono (Nat.le_of_eq hz.out.symm))
              obtain ⟨k0, k1, k2, k3, k4⟩ := hcs.out _ hb1
              go_wp2_with fail
              refine (AT1.out _ hb1).mono ?_
              rintro e w2 ⟨rfl, hb2⟩
              have hb2 := hb1.trans (hb2.mono (by have := hb1.size; have := hz.out; omega))
              clear hb1
              obtain ⟨k0, k1, k2, k3, k4⟩ := hcs.out _ hb2
              go_wp2_with fail
              refine (FL.out _).mono ?_
              rintro e w3 ⟨rfl, hb3⟩
              have hb3 := hb2.trans (hb3.mono (by have := hb2.size; have := hz.out; omega))
              clear hb2
              go_wp2
              go_ret2
              exact ⟨rfl, hb0.out.trans (hb3.mono (by omega))⟩
end Go.Proofs.Ytmmenpaodofahaa
