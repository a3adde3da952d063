/- wide.Near is a floor, and grows; Compare; walked. -/
import Derived.Test.YtfejdbmamaggpaaDoorUnit7
namespace Go.Proofs.YtfejdbmamaggpaaDoor
open Go.ChangeShapes Go.WideShapes Go.ChangeAt Go.RowKit
set_option linter.unusedVariables false
set_option linter.unusedSimpArgs false
theorem half_up {C W r : Int} (hC : 0 < C) (r0 : 0 ≤ r) (r1 : r < C) : (2 * (C * W + r) + C) / (2 * C) = if C ≤ 2 * r then W + 1 else W := by
  have e : 2 * (C * W + r) + C = (2 * r + C) + 2 * C * W := by rw [Int.mul_assoc]; omega
  rw [e, Int.add_mul_ediv_left _ _ (by omega)]
  by_cases z : C ≤ 2 * r
  · rw [if_pos z, show 2 * r + C = (2 * r - C) + 2 * C * 1 by omega, Int.add_mul_ediv_left _ _ (by omega), Int.ediv_eq_zero_of_lt (by omega) (by omega)]
    omega
  · rw [if_neg z, Int.ediv_eq_zero_of_lt (by omega) (by omega)]
    omega
theorem half_dn {C W r : Int} (hC : 0 < C) (r0 : 0 ≤ r) (r1 : r < C) : (-(2 * (C * W + r)) + C) / (2 * C) = if C < 2 * r then -(W + 1) else -W := by
  have e : -(2 * (C * W + r)) + C = (C - 2 * r) + 2 * C * (-W) := by
    rw [Int.mul_neg, Int.mul_assoc]; omega
  rw [e, Int.add_mul_ediv_left _ _ (by omega)]
  by_cases z : C < 2 * r
  · rw [if_pos z, show C - 2 * r = (3 * C - 2 * r) + 2 * C * (-1) by omega, Int.add_mul_ediv_left _ _ (by omega), Int.ediv_eq_zero_of_lt (by omega) (by omega)]
    omega
  · rw [if_neg z, Int.ediv_eq_zero_of_lt (by omega) (by omega)]
    omega
theorem nr_floor {n A C : Int} (hA : 0 ≤ A) (hC : 0 < C) (h : nrB n A C = true) : nrV n A C = (2 * (n * A) + C) / (2 * C) := by
  have c0 : ¬ C = 0 := by omega
  have hmC : mag C = C := by unfold mag; rw [if_neg (by omega)]
  have hmA : mag A = A := by unfold mag; rw [if_neg (by omega)]
  have hx : xr n A C = decide (n < 0) := by unfold xr; rw [decide_eq_false (show ¬ A < 0 by omega), decide_eq_false (show ¬ C < 0 by omega)]; simp
  unfold nrB at h
  rw [Bool.and_eq_true] at h
  have h := h.2
  unfold nrV
  rw [if_neg c0]
  unfold nbV
  rw [h]
  simp only [if_true]
  rw [hx]
  unfold awN nrS
  rw [hx, hmC, hmA]
  by_cases z : n < 0
  · have hm : mag n = -n := by unfold mag; rw [if_pos z]
    rw [hm]
    have e := Int.mul_ediv_add_emod (-n * A) C
    have r0 := Int.emod_nonneg (-n * A) c0
    have r1 := Int.emod_lt_of_pos (-n * A) hC
    have q : 2 * (n * A) + C = -(2 * (C * (-n * A / C) + -n * A % C)) + C := by rw [e, Int.neg_mul]; omega
    rw [q, half_dn hC r0 r1]
    generalize -n * A % C = r at *
    generalize -n * A / C = W at *
    rw [decide_eq_true z]
    by_cases y : C < 2 * r
    · rw [if_pos y, decide_eq_true (show C - r < r by omega)]; simp
    · rw [if_neg y, decide_eq_false (show ¬ C - r < r by omega)]; simp
  · have hm : mag n = n := by unfold mag; rw [if_neg z]
    rw [hm]
    have e := Int.mul_ediv_add_emod (n * A) C
    have r0 := Int.emod_nonneg (n * A) c0
    have r1 := Int.emod_lt_of_pos (n * A) hC
    have q : 2 * (n * A) + C = 2 * (C * (n * A / C) + n * A % C) + C := by rw [e]
    rw [q, half_up hC r0 r1]
    generalize n * A % C = r at *
    generalize n * A / C = W at *
    rw [decide_eq_false z]
    by_cases y : C ≤ 2 * r
    · rw [if_pos y]
      by_cases x : C - r < r
      · rw [decide_eq_true x]; simp
      · rw [decide_eq_false x, show (r == C - r) = true from beq_iff_eq.2 (by omega)]; simp
    · rw [if_neg y, decide_eq_false (show ¬ C - r < r by omega), show (r == C - r) = false from beq_eq_false_iff_ne.2 (by omega)]; simp
theorem nr_mono {n m A C : Int} (hA : 0 ≤ A) (hC : 0 < C) (hn : nrB n A C = true) (hm : nrB m A C = true) (h : n ≤ m) : nrV n A C ≤ nrV m A C := by
  rw [nr_floor hA hC hn, nr_floor hA hC hm]
  have := Int.mul_le_mul_of_nonneg_right h hA
  exact Int.ediv_le_ediv (by omega) (by omega)
theorem clp_mono {n m : Int} (h : n ≤ m) : clp n ≤ clp m := by unfold clp; omega
theorem to_mono {n m u v : Int} (hn : toB n u v = true) (hm : toB m u v = true) (h : n ≤ m) : toV n u v ≤ toV m u v := by
  unfold toB at hn hm
  rw [Bool.and_eq_true] at hn hm
  have hK := hn.1
  unfold toV
  rw [if_pos hK, if_pos hK]
  unfold toK at hK
  rw [Bool.and_eq_true, Bool.and_eq_true] at hK
  obtain ⟨i, rfl, hi⟩ := unB_k hK.1.1
  obtain ⟨j, rfl, hj⟩ := unB_k hK.1.2
  obtain ⟨b1, b2⟩ := u_bd hi
  obtain ⟨b3, b4⟩ := u_bd hj
  have p1 : 0 < uB i * uA j := Int.mul_pos (by omega) (by omega)
  have p2 : 0 ≤ uA i * uB j := (mul_bd b1 b4).1
  exact nr_mono p2 p1 hn.2 hm.2 (clp_mono h)
def ccV (x y : Int) : Int := if x < y then -1 else if y < x then 1 else 0
set_option maxRecDepth 100000 in
set_option maxHeartbeats 8000000 in
theorem ccmp (x y : Int) (w : World) : Calls Tryd.prog 76 #[.int .i64 x, .int .i64 y] w fun e w' => e = .returned (.int .i64 (ccV x y)) ∧ w = w' := by
  have NA := Lib.hid (fun (z : Int) (u : World) => (show Calls Tryd.prog 126 #[.int .i64 z] u fun e w' => e = .returned (.bool false) ∧ u = w' by
    have e : (z != z) = false := by simp
    go_enter Tryd.func126, Tryd.ntmps126
    go_wp2
    go_ret
    exact ⟨rfl, rfl⟩))
  go_enter Tryd.func76, Tryd.ntmps76
  go_wp2_with fail
  refine (NA.out x w).mono ?_
  rintro e u1 ⟨rfl, rfl⟩
  go_wp2_with fail
  refine (NA.out y w).mono ?_
  rintro e u1 ⟨rfl, rfl⟩
  go_wp2
  all_goals
    go_ret
    exact ⟨ret_int (by unfold ccV; omega), rfl⟩
theorem cp_box (w : World) (n u m v : Int) : ∃ V, V = (w.alloc (.cells #[.int .i64 n, .int .i64 u] 33)).alloc (.cells #[.int .i64 m, .int .i64 v] 33) ∧ Below w.heap.size w V ∧ ∀ x, Below V.heap.size V x → x.cell? ⟨w.heap.size, 0, none⟩ = some (.int .i64 n) ∧ x.cell? ⟨w.heap.size, 1, none⟩ = some (.int .i64 u) ∧ x.cell? ⟨w.heap.size + 1, 0, none⟩ = some (.int .i64 m) ∧ x.cell? ⟨w.heap.size + 1, 1, none⟩ = some (.int .i64 v) :=
  ⟨_, rfl, ((Below.refl _ _).alloc (Nat.le_refl _) _).alloc (by simp) _, fun x k => ⟨(bc k (show w.heap.size < _ by simp; omega)).trans (by go_simp), (bc k (show w.heap.size < _ by simp; omega)).trans (by go_simp), (bc k (show w.heap.size + 1 < _ by simp)).trans (by go_simp), (bc k (show w.heap.size + 1 < _ by simp)).trans (by go_simp)⟩⟩
def cuB (n u m v : Int) : Bool := ptB n u && ptB m v && (uKd u == uKd v)
def cuV (n u m v : Int) : Int := if cuB n u m v = true then ccV (ptV n u) (ptV m v) else 0
set_option maxRecDepth 100000 in
set_option maxHeartbeats 8000000 in
theorem ucompare (n u m v : Int) (w : World) : Calls Tryd.prog 33 #[.agg #[.int .i64 n, .int .i64 u], .agg #[.int .i64 m, .int .i64 v]] w fun e w' => e = .returned (.tuple #[.int .i64 (cuV n u m v), .bool (cuB n u m v)]) ∧ Below w.heap.size w w' := by
  obtain ⟨V, eV, hbV, HC⟩ := cp_box w n u m v
  have HW := Lib.hid (fun x (k : Below V.heap.size V x) => (hbV.trans (k.mono hbV.size) : Below w.heap.size w x))
  obtain ⟨B, eB⟩ : ∃ B, w.heap.size = B := ⟨_, rfl⟩
  rw [eB] at HC hbV
  replace HC := Lib.hid HC
  replace eV := Lib.hid eV
  have P1 := fun x => uparts n u x
  have P2 := fun x => uparts m v x
  have K1 := fun x => ukind u x
  have K2 := fun x => ukind v x
  have CC := Lib.hid (fun x => ccmp (ptV n u) (ptV m v) x)
  have hB := Lib.hid (show cuB n u m v = (ptB n u && ptB m v && (uKd u == uKd v)) from rfl)
  have hV := Lib.hid (show cuV n u m v = if cuB n u m v = true then ccV (ptV n u) (ptV m v) else 0 from rfl)
  obtain ⟨b1, e1⟩ : ∃ z, ptB n u = z := ⟨_, rfl⟩
  obtain ⟨b2, e2⟩ : ∃ z, ptB m v = z := ⟨_, rfl⟩
  obtain ⟨x1, e3⟩ : ∃ z, ptV n u = z := ⟨_, rfl⟩
  obtain ⟨x2, e4⟩ : ∃ z, ptV m v = z := ⟨_, rfl⟩
  obtain ⟨y1, e5⟩ : ∃ z, uKd u = z := ⟨_, rfl⟩
  obtain ⟨y2, e6⟩ : ∃ z, uKd v = z := ⟨_, rfl⟩
  obtain ⟨q1, e7⟩ : ∃ z, unB u = z := ⟨_, rfl⟩
  obtain ⟨q2, e8⟩ : ∃ z, unB v = z := ⟨_, rfl⟩
  rw [e1, e2, e5, e6] at hB
  rw [e3, e4] at hV CC
  rw [e1, e3] at P1
  rw [e2, e4] at P2
  rw [e5, e7] at K1
  rw [e6, e8] at K2
  clear e1 e2 e3 e4 e5 e6 e7 e8 hbV
  have h0 := Lib.hid (Below.refl V.heap.size V)
  obtain ⟨R, eR⟩ : ∃ R, cuV n u m v = R := ⟨_, rfl⟩
  obtain ⟨RB, eRB⟩ : ∃ R, cuB n u m v = R := ⟨_, rfl⟩
  rw [eRB] at hB hV
  rw [eR] at hV
  rw [eR, eRB]
  clear eR eRB
  replace P1 := Lib.hid P1
  replace P2 := Lib.hid P2
  replace K1 := Lib.hid K1
  replace K2 := Lib.hid K2
  cases b1
  · obtain rfl : RB = false := by rw [hB.out]; rfl
    obtain rfl : R = 0 := by rw [hV.out]; rfl
    obtain ⟨c0, c1, c2, c3⟩ := HC.out V h0.out
    go_enter Tryd.func33, Tryd.ntmps33
    go_upto_region 1 with (fail)
    try rw [eB]
    rw [← eV.out]
    go_wp2_with fail
    refine (P1.out V).mono ?_
    rintro e u1 ⟨rfl, hb⟩
    have k1 := Lib.hid (show Below V.heap.size V u1 from hb)
    clear hb c0 c1 c2 c3
    obtain ⟨c0, c1, c2, c3⟩ := HC.out u1 k1.out
    go_wp2_with fail
    refine (P2.out u1).mono ?_
    rintro e u2 ⟨rfl, hb⟩
    have k2 := Lib.hid (show Below V.heap.size V u2 from k1.out.trans (hb.mono k1.out.size))
    clear hb c0 c1 c2 c3
    obtain ⟨c0, c1, c2, c3⟩ := HC.out u2 k2.out
    go_wp2_with fail
    refine (K1.out u2).mono ?_
    rintro e u3 ⟨rfl, hb⟩
    have k3 := Lib.hid (show Below V.heap.size V u3 from k2.out.trans (hb.mono k2.out.size))
    clear hb c0 c1 c2 c3
    obtain ⟨c0, c1, c2, c3⟩ := HC.out u3 k3.out
    go_wp2_with fail
    refine (K2.out u3).mono ?_
    rintro e u4 ⟨rfl, hb⟩
    have k4 := Lib.hid (show Below V.heap.size V u4 from k3.out.trans (hb.mono k3.out.size))
    clear hb c0 c1 c2 c3
    go_wp2
    go_ret2
    exact ⟨rfl, HW.out _ k4.out⟩
  · cases b2
    · obtain rfl : RB = false := by rw [hB.out]; rfl
      obtain rfl : R = 0 := by rw [hV.out]; rfl
      obtain ⟨c0, c1, c2, c3⟩ := HC.out V h0.out
      go_enter Tryd.func33, Tryd.ntmps33
      go_upto_region 1 with (fail)
      try rw [eB]
      rw [← eV.out]
      go_wp2_with fail
      refine (P1.out V).mono ?_
      rintro e u1 ⟨rfl, hb⟩
      have k1 := Lib.hid (show Below V.heap.size V u1 from hb)
      clear hb c0 c1 c2 c3
      obtain ⟨c0, c1, c2, c3⟩ := HC.out u1 k1.out
      go_wp2_with fail
      refine (P2.out u1).mono ?_
      rintro e u2 ⟨rfl, hb⟩
      have k2 := Lib.hid (show Below V.heap.size V u2 from k1.out.trans (hb.mono k1.out.size))
      clear hb c0 c1 c2 c3
      obtain ⟨c0, c1, c2, c3⟩ := HC.out u2 k2.out
      go_wp2_with fail
      refine (K1.out u2).mono ?_
      rintro e u3 ⟨rfl, hb⟩
      have k3 := Lib.hid (show Below V.heap.size V u3 from k2.out.trans (hb.mono k2.out.size))
      clear hb c0 c1 c2 c3
      obtain ⟨c0, c1, c2, c3⟩ := HC.out u3 k3.out
      go_wp2_with fail
      refine (K2.out u3).mono ?_
      rintro e u4 ⟨rfl, hb⟩
      have k4 := Lib.hid (show Below V.heap.size V u4 from k3.out.trans (hb.mono k3.out.size))
      clear hb c0 c1 c2 c3
      go_wp2
      go_ret2
      exact ⟨rfl, HW.out _ k4.out⟩
    · by_cases hk : y1 = y2
      · subst hk
        obtain rfl : RB = true := by rw [hB.out]; simp
        obtain rfl : R = ccV x1 x2 := by rw [hV.out]; rfl
        have r1 : (y1 != y1) = false := by simp
        obtain ⟨c0, c1, c2, c3⟩ := HC.out V h0.out
        go_enter Tryd.func33, Tryd.ntmps33
        go_upto_region 1 with (fail)
        try rw [eB]
        rw [← eV.out]
        go_wp2_with fail
        refine (P1.out V).mono ?_
        rintro e u1 ⟨rfl, hb⟩
        have k1 := Lib.hid (show Below V.heap.size V u1 from hb)
        clear hb c0 c1 c2 c3
        obtain ⟨c0, c1, c2, c3⟩ := HC.out u1 k1.out
        go_wp2_with fail
        refine (P2.out u1).mono ?_
        rintro e u2 ⟨rfl, hb⟩
        have k2 := Lib.hid (show Below V.heap.size V u2 from k1.out.trans (hb.mono k1.out.size))
        clear hb c0 c1 c2 c3
        obtain ⟨c0, c1, c2, c3⟩ := HC.out u2 k2.out
        go_wp2_with fail
        refine (K1.out u2).mono ?_
        rintro e u3 ⟨rfl, hb⟩
        have k3 := Lib.hid (show Below V.heap.size V u3 from k2.out.trans (hb.mono k2.out.size))
        clear hb c0 c1 c2 c3
        obtain ⟨c0, c1, c2, c3⟩ := HC.out u3 k3.out
        go_wp2_with fail
        refine (K2.out u3).mono ?_
        rintro e u4 ⟨rfl, hb⟩
        have k4 := Lib.hid (show Below V.heap.size V u4 from k3.out.trans (hb.mono k3.out.size))
        clear hb c0 c1 c2 c3
        go_wp2_with fail
        refine (CC.out u4).mono ?_
        rintro e u5 ⟨rfl, rfl⟩
        go_wp2
        go_ret2
        exact ⟨rfl, HW.out _ k4.out⟩
      · have r1 : (y1 != y2) = true := by simp [hk]
        have r2 : (y1 == y2) = false := by simp [hk]
        obtain rfl : RB = false := by rw [hB.out, r2]; rfl
        obtain rfl : R = 0 := by rw [hV.out]; rfl
        clear r2
        obtain ⟨c0, c1, c2, c3⟩ := HC.out V h0.out
        go_enter Tryd.func33, Tryd.ntmps33
        go_upto_region 1 with (fail)
        try rw [eB]
        rw [← eV.out]
        go_wp2_with fail
        refine (P1.out V).mono ?_
        rintro e u1 ⟨rfl, hb⟩
        have k1 := Lib.hid (show Below V.heap.size V u1 from hb)
        clear hb c0 c1 c2 c3
        obtain ⟨c0, c1, c2, c3⟩ := HC.out u1 k1.out
        go_wp2_with fail
        refine (P2.out u1).mono ?_
        rintro e u2 ⟨rfl, hb⟩
        have k2 := Lib.hid (show Below V.heap.size V u2 from k1.out.trans (hb.mono k1.out.size))
        clear hb c0 c1 c2 c3
        obtain ⟨c0, c1, c2, c3⟩ := HC.out u2 k2.out
        go_wp2_with fail
        refine (K1.out u2).mono ?_
        rintro e u3 ⟨rfl, hb⟩
        have k3 := Lib.hid (show Below V.heap.size V u3 from k2.out.trans (hb.mono k2.out.size))
        clear hb c0 c1 c2 c3
        obtain ⟨c0, c1, c2, c3⟩ := HC.out u3 k3.out
        go_wp2_with fail
        refine (K2.out u3).mono ?_
        rintro e u4 ⟨rfl, hb⟩
        have k4 := Lib.hid (show Below V.heap.size V u4 from k3.out.trans (hb.mono k3.out.size))
        clear hb c0 c1 c2 c3
        go_wp2
        go_ret2
        exact ⟨rfl, HW.out _ k4.out⟩
end Go.Proofs.YtfejdbmamaggpaaDoor
