/- The law TrendEven; walked. -/
import Derived.Test.YticecjjlafmclaaTrend8
import Derived.Test.YticecjjlafmclaaTrend14
import Derived.Deep.Cut
namespace Go.Proofs.Yticecjjlafmclaa
open Go.ChangeShapes Go.WideShapes Go.ChangeAt Go.RowKit
set_option linter.unusedVariables false
set_option linter.unusedSimpArgs false
theorem te_box (w : World) (x0 x1 : Int) : ∃ V, V = (w.alloc (.cells #[.int .i64 x0, .int .i64 x1] 54)) ∧ Below w.heap.size w V ∧ V.heap.size = w.heap.size + 1 ∧ ∀ u, Below (w.heap.size + 1) V u → u.cell? ⟨w.heap.size, 0, none⟩ = some (.int .i64 x0) ∧ u.cell? ⟨w.heap.size, 1, none⟩ = some (.int .i64 x1) :=
  ⟨_, rfl, (by repeat (first | exact Below.refl _ _ | assumption | apply Below.drew | apply below_drewN | (refine Below.alloc ?_ (by first | exact Nat.le_refl _ | omega | (simp <;> omega)) _) | (refine Below.setCell ?_ (by first | exact Nat.le_refl _ | omega | (simp <;> omega)) _))), by simp, fun u hu => ⟨(bc hu (by omega)).trans (by go_simp), (bc hu (by omega)).trans (by go_simp)⟩⟩
theorem te_bd {x0 x1 : Int} {k : Nat} (a1 : -1000000 ≤ x0) (a2 : x0 ≤ 1000000) (b1 : -100000 ≤ x1) (b2 : x1 ≤ 100000) (hk : k ≤ 200) : -100000000 ≤ x0 + x1 * (k : Int) ∧ x0 + x1 * (k : Int) ≤ 100000000 := by
  have h0 : (0 : Int) ≤ (k : Int) := by omega
  have h1 : x1 * (k : Int) ≤ 100000 * (k : Int) := Int.mul_le_mul_of_nonneg_right b2 h0
  have h2 : -100000 * (k : Int) ≤ x1 * (k : Int) := Int.mul_le_mul_of_nonneg_right b1 h0
  omega
set_option maxRecDepth 100000 in
set_option maxHeartbeats 8000000 in
theorem law_TrendEven (sz many x0 x1 : Int) (w : World) : Calls Try.prog 7 #[.int .i64 sz, .int .i64 many, .agg #[.int .i64 x0, .int .i64 x1]] w fun e w' => e = .returned (.bool true) ∧ Below w.heap.size w w' := by
  obtain ⟨V, eV, hb0, hz, hcs⟩ := te_box w x0 x1
  have LV := Lib.hid (fun u => lives44 u)
  rcases (show (sz < 2 ∨ 64 < sz) ∨ (2 ≤ sz ∧ sz ≤ 64) by omega) with g | ⟨g, g2⟩
  · have NW := Lib.hid (fun u => trnew_no sz u g)
    clear g
    replace hb0 := Lib.hid hb0
    replace hz := Lib.hid hz
    replace hcs := Lib.hid hcs
    replace eV := Lib.hid eV
    go_enter Try.func7, Try.ntmps7
    go_wp2_with fail
    rw [← eV.out]
    obtain ⟨k0, k1⟩ := hcs.out _ (Below.refl _ _)
    go_wp2_with fail
    refine (NW.out _).mono ?_
    rintro e w1 ⟨rfl, rfl⟩
    have hb1 := Below.refl (w.heap.size + 1) V
    go_wp2_with fail
    refine (LV.out _).mono ?_
    rintro e w20 ⟨rfl, hb20⟩
    have hb20 := hb1.trans (hb20.mono (by have := hb1.size; have := hz.out; omega))
    go_wp2
    go_ret
    exact ⟨rfl, hb0.out.trans (hb20.mono (by omega))⟩
  have NW := Lib.hid (fun u => trnew_ok sz u ⟨g, g2⟩)
  rcases (show many < 2 ∨ (2 ≤ many ∧ 100 < many) ∨ (2 ≤ many ∧ many ≤ 100 ∧ x0 < -1000000) ∨ (2 ≤ many ∧ many ≤ 100 ∧ -1000000 ≤ x0 ∧ 1000000 < x0) ∨ (2 ≤ many ∧ many ≤ 100 ∧ -1000000 ≤ x0 ∧ x0 ≤ 1000000 ∧ x1 < -100000) ∨ (2 ≤ many ∧ many ≤ 100 ∧ -1000000 ≤ x0 ∧ x0 ≤ 1000000 ∧ -100000 ≤ x1 ∧ 100000 < x1) ∨ (2 ≤ many ∧ many ≤ 100 ∧ -1000000 ≤ x0 ∧ x0 ≤ 1000000 ∧ -100000 ≤ x1 ∧ x1 ≤ 100000) by omega) with h | ⟨h, h2⟩ | ⟨h, h2, h3⟩ | ⟨h, h2, h3, h4⟩ | ⟨h, h2, h3, h4, h5⟩ | ⟨h, h2, h3, h4, h5, h6⟩ | ⟨h, h2, h3, h4, h5, h6⟩
  · skip
    replace hb0 := Lib.hid hb0
    replace hz := Lib.hid hz
    replace hcs := Lib.hid hcs
    replace eV := Lib.hid eV
    go_enter Try.func7, Try.ntmps7
    go_wp2_with fail
    rw [← eV.out]
    obtain ⟨k0, k1⟩ := hcs.out _ (Below.refl _ _)
    go_wp2_with fail
    refine (NW.out _).mono ?_
    rintro e w1 ⟨b, hbb, rfl, m1, hb1⟩
    rw [hz.out] at m1 hbb
    have hb1 := (Below.refl (w.heap.size + 1) V).trans (hb1.mono (Nat.le_of_eq hz.out.symm))
    obtain ⟨k0, k1⟩ := hcs.out _ hb1
    go_wp2_with fail
    refine (LV.out _).mono ?_
    rintro e w20 ⟨rfl, hb20⟩
    have hb20 := hb1.trans (hb20.mono (by have := hb1.size; have := hz.out; omega))
    go_wp2
    go_ret
    exact ⟨rfl, hb0.out.trans (hb20.mono (by omega))⟩
  · skip
    replace hb0 := Lib.hid hb0
    replace hz := Lib.hid hz
    replace hcs := Lib.hid hcs
    replace eV := Lib.hid eV
    go_enter Try.func7, Try.ntmps7
    go_wp2_with fail
    rw [← eV.out]
    obtain ⟨k0, k1⟩ := hcs.out _ (Below.refl _ _)
    go_wp2_with fail
    refine (NW.out _).mono ?_
    rintro e w1 ⟨b, hbb, rfl, m1, hb1⟩
    rw [hz.out] at m1 hbb
    have hb1 := (Below.refl (w.heap.size + 1) V).trans (hb1.mono (Nat.le_of_eq hz.out.symm))
    obtain ⟨k0, k1⟩ := hcs.out _ hb1
    go_wp2_with fail
    refine (LV.out _).mono ?_
    rintro e w20 ⟨rfl, hb20⟩
    have hb20 := hb1.trans (hb20.mono (by have := hb1.size; have := hz.out; omega))
    go_wp2
    go_ret
    exact ⟨rfl, hb0.out.trans (hb20.mono (by omega))⟩
  · skip
    replace hb0 := Lib.hid hb0
    replace hz := Lib.hid hz
    replace hcs := Lib.hid hcs
    replace eV := Lib.hid eV
    go_enter Try.func7, Try.ntmps7
    go_wp2_with fail
    rw [← eV.out]
    obtain ⟨k0, k1⟩ := hcs.out _ (Below.refl _ _)
    go_wp2_with fail
    refine (NW.out _).mono ?_
    rintro e w1 ⟨b, hbb, rfl, m1, hb1⟩
    rw [hz.out] at m1 hbb
    have hb1 := (Below.refl (w.heap.size + 1) V).trans (hb1.mono (Nat.le_of_eq hz.out.symm))
    obtain ⟨k0, k1⟩ := hcs.out _ hb1
    go_wp2_with fail
    refine (LV.out _).mono ?_
    rintro e w20 ⟨rfl, hb20⟩
    have hb20 := hb1.trans (hb20.mono (by have := hb1.size; have := hz.out; omega))
    go_wp2
    go_ret
    exact ⟨rfl, hb0.out.trans (hb20.mono (by omega))⟩
  · skip
    replace hb0 := Lib.hid hb0
    replace hz := Lib.hid hz
    replace hcs := Lib.hid hcs
    replace eV := Lib.hid eV
    go_enter Try.func7, Try.ntmps7
    go_wp2_with fail
    rw [← eV.out]
    obtain ⟨k0, k1⟩ := hcs.out _ (Below.refl _ _)
    go_wp2_with fail
    refine (NW.out _).mono ?_
    rintro e w1 ⟨b, hbb, rfl, m1, hb1⟩
    rw [hz.out] at m1 hbb
    have hb1 := (Below.refl (w.heap.size + 1) V).trans (hb1.mono (Nat.le_of_eq hz.out.symm))
    obtain ⟨k0, k1⟩ := hcs.out _ hb1
    go_wp2_with fail
    refine (LV.out _).mono ?_
    rintro e w20 ⟨rfl, hb20⟩
    have hb20 := hb1.trans (hb20.mono (by have := hb1.size; have := hz.out; omega))
    go_wp2
    go_ret
    exact ⟨rfl, hb0.out.trans (hb20.mono (by omega))⟩
  · skip
    replace hb0 := Lib.hid hb0
    replace hz := Lib.hid hz
    replace hcs := Lib.hid hcs
    replace eV := Lib.hid eV
    go_enter Try.func7, Try.ntmps7
    go_wp2_with fail
    rw [← eV.out]
    obtain ⟨k0, k1⟩ := hcs.out _ (Below.refl _ _)
    go_wp2_with fail
    refine (NW.out _).mono ?_
    rintro e w1 ⟨b, hbb, rfl, m1, hb1⟩
    rw [hz.out] at m1 hbb
    have hb1 := (Below.refl (w.heap.size + 1) V).trans (hb1.mono (Nat.le_of_eq hz.out.symm))
    obtain ⟨k0, k1⟩ := hcs.out _ hb1
    go_wp2_with fail
    refine (LV.out _).mono ?_
    rintro e w20 ⟨rfl, hb20⟩
    have hb20 := hb1.trans (hb20.mono (by have := hb1.size; have := hz.out; omega))
    go_wp2
    go_ret
    exact ⟨rfl, hb0.out.trans (hb20.mono (by omega))⟩
  · skip
    replace hb0 := Lib.hid hb0
    replace hz := Lib.hid hz
    replace hcs := Lib.hid hcs
    replace eV := Lib.hid eV
    go_enter Try.func7, Try.ntmps7
    go_wp2_with fail
    rw [← eV.out]
    obtain ⟨k0, k1⟩ := hcs.out _ (Below.refl _ _)
    go_wp2_with fail
    refine (NW.out _).mono ?_
    rintro e w1 ⟨b, hbb, rfl, m1, hb1⟩
    rw [hz.out] at m1 hbb
    have hb1 := (Below.refl (w.heap.size + 1) V).trans (hb1.mono (Nat.le_of_eq hz.out.symm))
    obtain ⟨k0, k1⟩ := hcs.out _ hb1
    go_wp2_with fail
    refine (LV.out _).mono ?_
    rintro e w20 ⟨rfl, hb20⟩
    have hb20 := hb1.trans (hb20.mono (by have := hb1.size; have := hz.out; omega))
    go_wp2
    go_ret
    exact ⟨rfl, hb0.out.trans (hb20.mono (by omega))⟩
  have PT := Lib.hid (fun (b : Nat) (L : List Int) (h : Int) u (m : Tr (w.heap.size + 1) b sz L u) => trput_all h u m)
  have SL := Lib.hid (fun (b : Nat) (L : List Int) u (m : Tr (w.heap.size + 1) b sz L u) (z : 2 ≤ L.length) (a : Int) (q : LnI a x1 L) => by have := trslope u m z; rw [trS_line q z] at this; exact this)
  have WO := Lib.hid (fun (b : Nat) (L : List Int) u (m : Tr (w.heap.size + 1) b sz L u) (z : 2 ≤ L.length) => trworst u m z)
  have OU := Lib.hid (fun (b : Nat) (L : List Int) u (m : Tr (w.heap.size + 1) b sz L u) (z : 2 ≤ L.length) (a : Int) (q : LnI a x1 L) => by have := trout 1 u m z; rw [otN_none (dfN_line q z)] at this; exact this)
  have BD := Lib.hid (fun (k : Nat) (hk : k ≤ 200) => te_bd (x0 := x0) (x1 := x1) (k := k) h3 h4 h5 h6 hk)
  have XB := Lib.hid (show -100000 ≤ x1 ∧ x1 ≤ 100000 from ⟨h5, h6⟩)
  replace hb0 := Lib.hid hb0
  replace hz := Lib.hid hz
  replace hcs := Lib.hid hcs
  replace eV := Lib.hid eV
  go_enter Try.func7, Try.ntmps7
  go_wp2_with fail
  rw [← eV.out]
  obtain ⟨k0, k1⟩ := hcs.out _ (Below.refl _ _)
  go_wp2_with fail
  refine (NW.out _).mono ?_
  rintro e w1 ⟨b, hbb, rfl, m1, hb1⟩
  rw [hz.out] at m1 hbb
  have hb1 := (Below.refl (w.heap.size + 1) V).trans (hb1.mono (Nat.le_of_eq hz.out.symm))
  obtain ⟨k0, k1⟩ := hcs.out _ hb1
  have m1 := Lib.hid m1
  clear hbb
  go_wp2_with fail
  go_loopw [9] (fun i v => ∃ (k : Nat) (L : List Int), (k : Int) ≤ many ∧ i = .int .i64 (k : Int) ∧ Below (w.heap.size + 1) V v ∧ Hid (Tr (w.heap.size + 1) b sz L v ∧ L.length = min k sz.toNat ∧ LnI (x0 + x1 * ((k : Int) - (L.length : Int))) x1 L)) (fun i _ => many.toNat - (intOf i).toNat)
  case atStart => exact ⟨0, [], by omega, rfl, hb1, Lib.hid ⟨m1.out, by simp, fun i hi => absurd hi (Nat.not_lt_zero _)⟩⟩
  case round =>
    clear hb1 m1 k0 k1
    obtain ⟨k, L, hk, rfl, hb, hS⟩ := hrel
    obtain ⟨k0, k1⟩ := hcs.out _ hb
    by_cases hlt : (k : Int) < many
    · have bd := BD.out k (by omega)
      have l0 : 0 ≤ (k : Int) := by omega
      obtain ⟨P, hP⟩ : ∃ P, P = x1 * (k : Int) := ⟨_, rfl⟩
      rw [← hP] at bd
      have hh : trH (x0 + P) = x0 + x1 * (k : Int) := by rw [← hP]; unfold trH; omega
      have EN := hS.out.2.2.next g hS.out.2.1 hh
      have n1 : IntKind.i64.wrap (x1 * (k : Int)) = P := by rw [← hP, IntKind.wrap_i64]; omega
      have n2 : IntKind.i64.wrap (x0 + P) = x0 + P := by rw [IntKind.wrap_i64]; omega
      have hm0 := hS.out.1
      replace hP := Lib.hid hP
      replace EN := Lib.hid EN
      clear hS bd hh
      go_wp2_with fail
      refine (PT.out b L (x0 + P) _ hm0).mono ?_
      rintro e w2 ⟨rfl, m2, bs2⟩
      have hb2 := hb.trans bs2
      replace m2 := Lib.hid m2
      clear hb bs2 hm0 k0 k1
      go_wp2
      go_roundw
      case rel => exact ⟨k + 1, _, by omega, by go_num, hb2, Lib.hid ⟨m2.out, EN.out⟩⟩
      case measure => simp [intOf]; omega
    · have hge : many ≤ (k : Int) := by omega
      obtain ⟨m0, l0, ln0⟩ := hS.out
      have z : 2 ≤ L.length := by omega
      have S1 := SL.out b L _ m0 z _ ln0
      have W1 := fun u m => WO.out b L u m z
      have O1 := fun u m => OU.out b L u m z _ ln0
      have ww : mxN (dfN (trM L) (trS L) L L.length) L.length ≤ 1 := mxN_le (dfN_line ln0 z) _
      have n3 : IntKind.i64.wrap (1000 * x1) = 1000 * x1 := by have := XB.out; rw [IntKind.wrap_i64]; omega
      have n4 : (1000 * x1 == 1000 * x1) = true := by simp
      generalize mxN (dfN (trM L) (trS L) L L.length) L.length = W at *
      replace S1 := Lib.hid S1
      replace W1 := Lib.hid W1
      replace O1 := Lib.hid O1
      replace m0 := Lib.hid m0
      clear hS l0 ln0
      go_wp2_with fail
      refine S1.out.mono ?_
      rintro e w3 ⟨rfl, rfl⟩
      go_wp2_with fail
      refine (W1.out _ m0.out).mono ?_
      rintro e w3 ⟨rfl, hb3⟩
      have m3 := Lib.hid (m0.out.bel hb3)
      have hb4 := hb.trans (hb3.mono (by have := hb.size; have := hz.out; omega))
      clear hb hb3 m0 k0 k1
      obtain ⟨k0, k1⟩ := hcs.out _ hb4
      go_wp2_with fail
      refine (O1.out _ m3.out).mono ?_
      rintro e w5 ⟨x5, rfl, hO, hb5⟩
      obtain ⟨ao, cp, rfl, -, -⟩ := hO.row
      have hb6 := hb4.trans (hb5.mono (by have := hb4.size; have := hz.out; omega))
      clear hO hb5 hb4 m3 k0 k1
      go_wp2_with fail
      refine (LV.out _).mono ?_
      rintro e w20 ⟨rfl, hb20⟩
      have hb20 := hb6.trans (hb20.mono (by have := hb6.size; have := hz.out; omega))
      go_wp2
      go_ret
      exact ⟨rfl, hb0.out.trans (hb20.mono (by omega))⟩
end Go.Proofs.Yticecjjlafmclaa
