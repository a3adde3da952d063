/- Impact pressures, what any lift asks for; the chapter's example; walked. -/
import Derived.Test.YtmmenpaodofahaaLift2
namespace Go.Proofs.Ytmmenpaodofahaa
open Go.ChangeShapes Go.WideShapes Go.ChangeAt Go.RowKit
set_option linter.unusedVariables false
set_option linter.unusedSimpArgs false

def liI (q p : Int) : Int := q + fitV q (10 * q) (28 * p)
def limV (q p : Int) : Int := if q < 0 ∨ p < 1 then 0 else liI (min q 4294967296) (min p 4294967296)
theorem limV_at {q p a b : Int} (h : 0 ≤ q) (g : 1 ≤ p) (e : a = min q 4294967296) (f : b = min p 4294967296) : limV q p = liI a b := by
  unfold limV
  rw [if_neg (by omega), ← e, ← f]
theorem fitV_bd (a b c : Int) : -1099511627775 ≤ fitV a b c ∧ fitV a b c ≤ 1099511627775 := by unfold fitV; omega
set_option maxRecDepth 100000 in
set_option maxHeartbeats 8000000 in
theorem limp2 (q p : Int) (w : World) : Calls Try.prog 34 #[.int .i64 q, .int .i64 p] w fun e w' => e = .returned (.int .i64 (limV q p)) ∧ Below w.heap.size w w' := by
  by_cases h0 : q < 0
  · rw [show limV q p = 0 from if_pos (.inl h0)]
    go_enter Try.func34, Try.ntmps34
    go_wp2
    go_ret
    exact ⟨rfl, Below.refl _ _⟩
  · by_cases h1 : p < 1
    · rw [show limV q p = 0 from if_pos (.inr h1)]
      go_enter Try.func34, Try.ntmps34
      go_wp2
      go_ret
      exact ⟨rfl, Below.refl _ _⟩
    · have g0 : 0 ≤ q := by omega
      have g1 : 1 ≤ p := by omega
      clear h0 h1
      rw [limV_at (a := min q 4294967296) (b := min p 4294967296) g0 g1 rfl rfl]
      obtain ⟨q1, hq1⟩ : ∃ x, x = min q 4294967296 := ⟨_, rfl⟩
      obtain ⟨p1, hp1⟩ : ∃ x, x = min p 4294967296 := ⟨_, rfl⟩
      have w1 : IntKind.i64.wrap (10 * (min q 4294967296)) = 10 * (min q 4294967296) := IntWalk.i64_in _ ⟨by omega, by omega⟩
      have w2 : IntKind.i64.wrap (28 * (min p 4294967296)) = 28 * (min p 4294967296) := IntWalk.i64_in _ ⟨by omega, by omega⟩
      have FT := Lib.hid (fun u => fit_any (min q 4294967296) (10 * (min q 4294967296)) (28 * (min p 4294967296)) u (by omega) (by omega) (by omega) (by omega) (by omega) (by omega))
      have fb := fitV_bd (min q 4294967296) (10 * (min q 4294967296)) (28 * (min p 4294967296))
      have HV := Lib.hid (show liI (min q 4294967296) (min p 4294967296) = (min q 4294967296) + fitV (min q 4294967296) (10 * (min q 4294967296)) (28 * (min p 4294967296)) from rfl)
      generalize fitV (min q 4294967296) (10 * (min q 4294967296)) (28 * (min p 4294967296)) = F at *
      generalize liI (min q 4294967296) (min p 4294967296) = R at *
      have w3 : IntKind.i64.wrap ((min q 4294967296) + F) = (min q 4294967296) + F := IntWalk.i64_in _ ⟨by omega, by omega⟩
      clear fb hq1 hp1
      go_enter Try.func34, Try.ntmps34
      go_wp2_with fail
      refine (FT.out _).mono ?_
      rintro e w1 ⟨rfl, hb1⟩
      go_wp2
      go_ret
      exact ⟨ret_int HV.out.symm, hb1⟩
set_option maxRecDepth 100000 in
set_option maxHeartbeats 8000000 in
theorem rimp18 (q p : Int) (w : World) : Calls Try.prog 35 #[.int .i64 q, .int .i64 p] w fun e w' => e = .returned (.int .i64 (limV q p)) ∧ Below w.heap.size w w' := by
  by_cases h0 : q < 0
  · rw [show limV q p = 0 from if_pos (.inl h0)]
    go_enter Try.func35, Try.ntmps35
    go_wp2
    go_ret
    exact ⟨rfl, Below.refl _ _⟩
  · by_cases h1 : p < 1
    · rw [show limV q p = 0 from if_pos (.inr h1)]
      go_enter Try.func35, Try.ntmps35
      go_wp2
      go_ret
      exact ⟨rfl, Below.refl _ _⟩
    · have g0 : 0 ≤ q := by omega
      have g1 : 1 ≤ p := by omega
      clear h0 h1
      rw [limV_at (a := min q 4294967296) (b := min p 4294967296) g0 g1 rfl rfl]
      obtain ⟨q1, hq1⟩ : ∃ x, x = min q 4294967296 := ⟨_, rfl⟩
      obtain ⟨p1, hp1⟩ : ∃ x, x = min p 4294967296 := ⟨_, rfl⟩
      have CQ := fun u => c09_any q 0 4294967296 (by omega) u
      rw [show c09 q 0 4294967296 = q1 by unfold c09; omega] at CQ
      have CP := fun u => c09_any p 1 4294967296 (by omega) u
      rw [show c09 p 1 4294967296 = p1 by unfold c09; omega] at CP
      replace CQ := Lib.hid CQ
      replace CP := Lib.hid CP
      rw [← hq1, ← hp1]
      have w1 : IntKind.i64.wrap (10 * q1) = 10 * q1 := IntWalk.i64_in _ ⟨by omega, by omega⟩
      have w2 : IntKind.i64.wrap (28 * p1) = 28 * p1 := IntWalk.i64_in _ ⟨by omega, by omega⟩
      have FT := Lib.hid (fun u => rfit_any q1 (10 * q1) (28 * p1) u (by omega) (by omega) (by omega) (by omega) (by omega) (by omega))
      have fb := fitV_bd q1 (10 * q1) (28 * p1)
      have HV := Lib.hid (show liI q1 p1 = q1 + fitV q1 (10 * q1) (28 * p1) from rfl)
      generalize fitV q1 (10 * q1) (28 * p1) = F at *
      generalize liI q1 p1 = R at *
      have w3 : IntKind.i64.wrap (q1 + F) = q1 + F := IntWalk.i64_in _ ⟨by omega, by omega⟩
      clear fb hq1 hp1
      go_enter Try.func35, Try.ntmps35
      go_wp2_with fail
      refine (CQ.out _).mono ?_
      rintro e w1 ⟨rfl, rfl⟩
      go_wp2_with fail
      refine (CP.out _).mono ?_
      rintro e w1 ⟨rfl, rfl⟩
      go_wp2_with fail
      refine (FT.out _).mono ?_
      rintro e w1 ⟨rfl, hb1⟩
      go_wp2
      go_ret
      exact ⟨ret_int HV.out.symm, hb1⟩

noncomputable def sE (X Y : List Int) (a l t x y p : Int) : Int := if lE X Y a l t x y = 0 then (if p < 1 then 2 else 0) else lE X Y a l t x y
noncomputable def sQ (X Y : List Int) (a l t x y p : Int) : Int := if lE X Y a l t x y = 0 then (if p < 1 then 0 else limV (lQ X Y a l t x y) p) else 0
set_option maxRecDepth 100000 in
set_option maxHeartbeats 8000000 in
theorem lsyn2 (ax ay : Option Addr) (cx cy : Nat) (X Y : List Int) (a l : Int) (t x y p : Int) (w : World) (hx : RowIs .i64 w ax X) (hy : RowIs .i64 w ay Y) (hX : X.length ≤ 300) (hY : Y.length ≤ 300) :
    Calls Try.prog 36 #[.agg #[.slice ax X.length cx, .slice ay Y.length cy, .int .i64 a, .int .i64 l], .int .i64 t, .int .i64 x, .int .i64 y, .int .i64 p] w fun e w' => e = .returned (.tuple #[.int .i64 (sQ X Y a l t x y p), .int .i64 (sE X Y a l t x y p)]) ∧ Below w.heap.size w w' := by
  obtain ⟨V, eV, hb0, hz, hcs⟩ := wng_box w ax ay cx cy X Y a l
  have DY := Lib.hid (fun u (h : Below (w.heap.size + 1) V u) => ldynamic2 ax ay cx cy X Y a l t x y u (hx.below (hb0.trans (h.mono (by omega)))) (hy.below (hb0.trans (h.mono (by omega)))) hX hY)
  unfold sQ sE
  have LI := Lib.hid (fun u => limp2 (lQ X Y a l t x y) p u)
  generalize lQ X Y a l t x y = Q at *
  generalize lE X Y a l t x y = E at *
  clear hx hy hX hY
  generalize limV Q p = R at *
  replace hb0 := Lib.hid hb0
  replace hz := Lib.hid hz
  replace hcs := Lib.hid hcs
  replace eV := Lib.hid eV
  by_cases hE : E = 0
  · subst hE
    by_cases hp : p < 1
    · rw [if_pos rfl, if_pos rfl, if_pos hp, if_pos hp]
      clear LI
      go_enter Try.func36, Try.ntmps36
      go_wp2_with fail
      rw [← eV.out]
      obtain ⟨k0, k1, k2, k3⟩ := hcs.out _ (Below.refl _ _)
      go_wp2_with fail
      refine (DY.out _ (Below.refl _ _)).mono ?_
      rintro e w1 ⟨rfl, hb1⟩
      have hb1 := (Below.refl (w.heap.size + 1) V).trans (hb1.mono (Nat.le_of_eq hz.out.symm))
      obtain ⟨k0, k1, k2, k3⟩ := hcs.out _ hb1
      go_wp2
      go_ret2
      exact ⟨rfl, hb0.out.trans (hb1.mono (by omega))⟩
    · rw [if_pos rfl, if_pos rfl, if_neg hp, if_neg hp]
      have hp' : 1 ≤ p := by omega
      clear hp
      go_enter Try.func36, Try.ntmps36
      go_wp2_with fail
      rw [← eV.out]
      obtain ⟨k0, k1, k2, k3⟩ := hcs.out _ (Below.refl _ _)
      go_wp2_with fail
      refine (DY.out _ (Below.refl _ _)).mono ?_
      rintro e w1 ⟨rfl, hb1⟩
      have hb1 := (Below.refl (w.heap.size + 1) V).trans (hb1.mono (Nat.le_of_eq hz.out.symm))
      obtain ⟨k0, k1, k2, k3⟩ := hcs.out _ hb1
      go_wp2_with fail
      refine (LI.out _).mono ?_
      rintro e w2 ⟨rfl, hb2⟩
      have hb2 := hb1.trans (hb2.mono (by have := hb1.size; have := hz.out; omega))
      clear hb1
      go_wp2
      go_ret2
      exact ⟨rfl, hb0.out.trans (hb2.mono (by omega))⟩
  · rw [if_neg hE, if_neg hE]
    have d1 : (E != 0) = true := by simp [hE]
    clear hE LI
    go_enter Try.func36, Try.ntmps36
    go_wp2_with fail
    rw [← eV.out]
    obtain ⟨k0, k1, k2, k3⟩ := hcs.out _ (Below.refl _ _)
    go_wp2_with fail
    refine (DY.out _ (Below.refl _ _)).mono ?_
    rintro e w1 ⟨rfl, hb1⟩
    have hb1 := (Below.refl (w.heap.size + 1) V).trans (hb1.mono (Nat.le_of_eq hz.out.symm))
    obtain ⟨k0, k1, k2, k3⟩ := hcs.out _ hb1
    go_wp2
    go_ret2
    exact ⟨rfl, hb0.out.trans (hb1.mono (by omega))⟩
set_option maxRecDepth 100000 in
set_option maxHeartbeats 8000000 in
theorem lgreat_any (ax ay : Option Addr) (cx cy : Nat) (X Y : List Int) (w : World) : Calls Try.prog 27 #[.agg #[.slice ax X.length cx, .slice ay Y.length cy]] w fun e w' => e = .returned (.bool (decide (300 < X.length) || decide (300 < Y.length))) ∧ Below w.heap.size w w' := by
  have dx : decide ((300 : Int) < (X.length : Int)) = decide (300 < X.length) := by simp; omega
  have dy : decide ((300 : Int) < (Y.length : Int)) = decide (300 < Y.length) := by simp; omega
  obtain ⟨p, hp⟩ : ∃ p, p = decide (300 < X.length) := ⟨_, rfl⟩
  obtain ⟨q, hq⟩ : ∃ q, q = decide (300 < Y.length) := ⟨_, rfl⟩
  rw [← hp] at dx ⊢
  rw [← hq] at dy ⊢
  clear hp hq
  obtain ⟨V, eV, hb0, hz, hcs⟩ := cr8_box w ax ay cx cy X Y
  replace hb0 := Lib.hid hb0
  replace hz := Lib.hid hz
  replace hcs := Lib.hid hcs
  replace eV := Lib.hid eV
  cases p
  · rw [Bool.false_or]
    go_enter Try.func27, Try.ntmps27
    go_wp2_with fail
    rw [← eV.out]
    obtain ⟨k0, k1⟩ := hcs.out _ (Below.refl _ _)
    go_wp2
    go_ret
    exact ⟨by first | rfl | (simp [dx, dy]; done) | (rw [dx, dy]; rfl), hb0.out⟩
  · rw [Bool.true_or]
    go_enter Try.func27, Try.ntmps27
    go_wp2_with fail
    rw [← eV.out]
    obtain ⟨k0, k1⟩ := hcs.out _ (Below.refl _ _)
    go_wp2
    go_ret
    exact ⟨by first | rfl | (simp [dx, dy]; done) | (rw [dx, dy]; rfl), hb0.out⟩
theorem k_one18 : CrK [0, 1] 0 1 := ⟨by decide, fun t ht => by obtain rfl : t = 0 := by omega
                                                               decide, fun t a b => by
  have b' : t < 2 := b
  obtain rfl : t = 1 := by omega
  decide⟩
theorem one18 : lQ [0, 1] [10000, 10000] 10000 1 0 1000 100 = 6400 ∧ lE [0, 1] [10000, 10000] 10000 1 0 1000 100 = 0 := by
  unfold lQ lE
  rw [crF_at (by decide +kernel) k_one18, show crV [0, 1] [10000, 10000] 0 1 = 10000 by decide +kernel]
  decide +kernel
set_option maxRecDepth 100000 in
set_option maxHeartbeats 8000000 in
theorem lives18 (w : World) : Calls Try.prog 28 #[] w fun e w' => e = .returned (.bool true) ∧ Below w.heap.size w w' := by
  have DY := fun ax ay cx cy u hx hy => ldynamic2 ax ay cx cy [0, 1] [10000, 10000] 10000 1 0 1000 100 u hx hy (by decide) (by decide)
  rw [one18.1, one18.2] at DY
  replace DY : ∀ ax ay cx cy u, RowIs .i64 u ax [0, 1] → RowIs .i64 u ay [10000, 10000] → Calls Try.prog 31 #[.agg #[.slice ax 2 cx, .slice ay 2 cy, .int .i64 10000, .int .i64 1], .int .i64 0, .int .i64 1000, .int .i64 100] u fun e w' => e = .returned (.tuple #[.int .i64 6400, .int .i64 0]) ∧ Below u.heap.size u w' := DY
  replace DY := Lib.hid DY
  go_enter Try.func28, Try.ntmps28
  go_wp2_with fail
  refine (DY.out _ _ _ _ _ (row2_at (by simp; omega) (by go_simp) (by go_simp)) (row2_at (by simp) (by go_simp) (by go_simp))).mono ?_
  rintro e w1 ⟨rfl, hb1⟩
  go_wp2
  go_ret
  exact ⟨rfl, ((((Below.refl w.heap.size w).alloc (Nat.le_refl _) _).alloc (by simp) _).alloc (by simp; try omega) _).trans (hb1.mono (by simp; try omega))⟩
end Go.Proofs.Ytmmenpaodofahaa
