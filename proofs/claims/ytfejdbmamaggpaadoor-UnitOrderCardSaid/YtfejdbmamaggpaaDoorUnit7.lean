/- Package unit: To and Compare in the code, To in the document; walked. -/
import Derived.Test.YtfejdbmamaggpaaDoorUnit6
namespace Go.Proofs.YtfejdbmamaggpaaDoor
open Go.ChangeShapes Go.WideShapes Go.ChangeAt Go.RowKit
set_option linter.unusedVariables false
set_option linter.unusedSimpArgs false
def toK (u v : Int) : Bool := unB u && unB v && (uKd u == uKd v)
def toB (n u v : Int) : Bool := toK u v && nrB (clp n) (uA u.toNat * uB v.toNat) (uB u.toNat * uA v.toNat)
def toV (n u v : Int) : Int := if toK u v = true then nrV (clp n) (uA u.toNat * uB v.toNat) (uB u.toNat * uA v.toNat) else 0
set_option maxRecDepth 100000 in
set_option maxHeartbeats 8000000 in
theorem rto (n u v : Int) (w : World) : Calls Tryd.prog 27 #[.int .i64 n, .int .i64 u, .int .i64 v] w fun e w' => e = .returned (.tuple #[.int .i64 (toV n u v), .bool (toB n u v)]) ∧ Below w.heap.size w w' := by
  have TU := fun x => rthere u x
  have TV := fun x => rthere v x
  have KU := Lib.hid (fun x => rkind u x)
  have KV := Lib.hid (fun x => rkind v x)
  have CL := Lib.hid (fun x => rclip_any n x)
  cases hU : unB u with
  | false =>
    rw [hU] at TU
    replace TU := Lib.hid TU
    have hK : toK u v = false := by unfold toK; rw [hU]; rfl
    rw [show toV n u v = 0 from if_neg (by rw [hK]; simp), show toB n u v = false by unfold toB; rw [hK]; rfl]
    go_enter Tryd.func27, Tryd.ntmps27
    go_wp2_with fail
    refine (TU.out w).mono ?_
    rintro e u1 ⟨rfl, rfl⟩
    go_wp2
    go_ret2
    exact ⟨rfl, Below.refl _ _⟩
  | true =>
    rw [hU] at TU
    replace TU := Lib.hid TU
    cases hV : unB v with
    | false =>
      rw [hV] at TV
      replace TV := Lib.hid TV
      have hK : toK u v = false := by unfold toK; rw [hV]; simp
      rw [show toV n u v = 0 from if_neg (by rw [hK]; simp), show toB n u v = false by unfold toB; rw [hK]; rfl]
      go_enter Tryd.func27, Tryd.ntmps27
      go_wp2_with fail
      refine (TU.out w).mono ?_
      rintro e u1 ⟨rfl, rfl⟩
      go_wp2_with fail
      refine (TV.out w).mono ?_
      rintro e u1 ⟨rfl, rfl⟩
      go_wp2
      go_ret2
      exact ⟨rfl, Below.refl _ _⟩
    | true =>
      rw [hV] at TV
      replace TV := Lib.hid TV
      obtain ⟨i, rfl, hi⟩ := unB_k hU
      obtain ⟨j, rfl, hj⟩ := unB_k hV
      have e1 : uKd (i : Int) = uK i := if_pos hU
      have e2 : uKd (j : Int) = uK j := if_pos hV
      replace KU := KU.out
      replace KV := KV.out
      rw [rkV_is hi] at KU
      rw [rkV_is hj] at KV
      replace KU := Lib.hid KU
      replace KV := Lib.hid KV
      by_cases hk : uK i = uK j
      · have hK : toK (i : Int) (j : Int) = true := by unfold toK; rw [hU, hV, e1, e2, hk]; simp
        rw [show toV n (i : Int) (j : Int) = nrV (clp n) (uA i * uB j) (uB i * uA j) from if_pos hK, show toB n (i : Int) (j : Int) = nrB (clp n) (uA i * uB j) (uB i * uA j) by unfold toB; rw [hK]; rfl]
        obtain ⟨b1, b2⟩ := u_bd hi
        obtain ⟨b3, b4⟩ := u_bd hj
        have b5 := mul_bd b1 b4
        have b6 := mul_bd' b3 b2
        have b7 := clp_bd n
        have NR := fun x => rquo_nr (clp n) (uA i * uB j) (uB i * uA j) x (by omega) (by omega) (by omega) (by omega) (by omega) (by omega)
        have w1 : IntKind.i64.wrap (uA i * uB j) = uA i * uB j := by rw [IntKind.wrap_i64]; omega
        have w2 : IntKind.i64.wrap (uB i * uA j) = uB i * uA j := by rw [IntKind.wrap_i64]; omega
        have S1 := fun x => rshare i hi x
        have S2 := fun x => rshare j hj x
        have n1 : (uK i != uK j) = false := by rw [hk]; simp
        clear b1 b2 b3 b4 b5 b6 b7 hK e1 e2 hk
        generalize uK i = ki at *
        generalize uK j = kj at *
        generalize uA i = ai at *
        generalize uB i = bi at *
        generalize uA j = aj at *
        generalize uB j = bj at *
        replace NR := Lib.hid NR
        replace S1 := Lib.hid S1
        replace S2 := Lib.hid S2
        go_enter Tryd.func27, Tryd.ntmps27
        go_wp2_with fail
        refine (TU.out w).mono ?_
        rintro e u1 ⟨rfl, rfl⟩
        go_wp2_with fail
        refine (TV.out w).mono ?_
        rintro e u1 ⟨rfl, rfl⟩
        go_wp2_with fail
        refine (KU.out w).mono ?_
        rintro e u1 ⟨rfl, rfl⟩
        go_wp2_with fail
        refine (KV.out w).mono ?_
        rintro e u1 ⟨rfl, rfl⟩
        go_wp2_with fail
        refine (S1.out w).mono ?_
        rintro e u1 ⟨rfl, hb⟩
        have k1 := Lib.hid (show Below w.heap.size w u1 from hb)
        clear hb
        go_wp2_with fail
        refine (S2.out u1).mono ?_
        rintro e u2 ⟨rfl, hb⟩
        have k2 := Lib.hid (show Below w.heap.size w u2 from k1.out.trans (hb.mono k1.out.size))
        clear hb
        go_wp2_with fail
        refine (CL.out u2).mono ?_
        rintro e u3 ⟨rfl, rfl⟩
        go_wp2_with fail
        refine (NR.out u2).mono ?_
        rintro e u3 ⟨rfl, hb⟩
        have k3 := Lib.hid (show Below w.heap.size w u3 from k2.out.trans (hb.mono k2.out.size))
        clear hb
        go_wp2
        go_ret2
        exact ⟨rfl, k3.out⟩
      · have hK : toK (i : Int) (j : Int) = false := by unfold toK; rw [hU, hV, e1, e2]; simp [hk]
        rw [show toV n (i : Int) (j : Int) = 0 from if_neg (by rw [hK]; simp), show toB n (i : Int) (j : Int) = false by unfold toB; rw [hK]; rfl]
        have n1 : (uK i != uK j) = true := by simp [hk]
        clear hK e1 e2
        go_enter Tryd.func27, Tryd.ntmps27
        go_wp2_with fail
        refine (TU.out w).mono ?_
        rintro e u1 ⟨rfl, rfl⟩
        go_wp2_with fail
        refine (TV.out w).mono ?_
        rintro e u1 ⟨rfl, rfl⟩
        go_wp2_with fail
        refine (KU.out w).mono ?_
        rintro e u1 ⟨rfl, rfl⟩
        go_wp2_with fail
        refine (KV.out w).mono ?_
        rintro e u1 ⟨rfl, rfl⟩
        go_wp2
        go_ret2
        exact ⟨rfl, Below.refl _ _⟩
theorem to_box (w : World) (n u : Int) : ∃ V, V = (w.alloc (.cells #[.int .i64 n, .int .i64 u] 33)).alloc (.cells #[.int .i64 0, .int .i64 0] 33) ∧ Below w.heap.size w V ∧ w.heap.size + 1 < V.heap.size ∧ Held (w.heap.size + 1) [.int .i64 0, .int .i64 0] V ∧ ∀ v, Below V.heap.size V v → v.cell? ⟨w.heap.size, 0, none⟩ = some (.int .i64 n) ∧ v.cell? ⟨w.heap.size, 1, none⟩ = some (.int .i64 u) := by
  have hO := Held.new (w.alloc (.cells #[.int .i64 n, .int .i64 u] 33)) [.int .i64 0, .int .i64 0] 33
  rw [show (w.alloc (.cells #[.int .i64 n, .int .i64 u] 33)).heap.size = w.heap.size + 1 by simp] at hO
  exact ⟨_, rfl, ((Below.refl _ _).alloc (Nat.le_refl _) _).alloc (by simp) _, by simp, hO, fun v k => ⟨(bc k (show w.heap.size < _ by simp; omega)).trans (by go_simp), (bc k (show w.heap.size < _ by simp; omega)).trans (by go_simp)⟩⟩
def toQ (n u v : Int) : Value := if toB n u v = true then .agg #[.int .i64 (toV n u v), .int .i64 v] else .agg #[.int .i64 0, .int .i64 0]
set_option maxRecDepth 100000 in
set_option maxHeartbeats 8000000 in
theorem uto (n u v : Int) (w : World) : Calls Tryd.prog 26 #[.agg #[.int .i64 n, .int .i64 u], .int .i64 v] w fun e w' => e = .returned (.tuple #[toQ n u v, .bool (toB n u v)]) ∧ Below w.heap.size w w' := by
  obtain ⟨V, eV, hbV, hz2, hO, HC⟩ := to_box w n u
  obtain ⟨B, eB⟩ : ∃ B, w.heap.size = B := ⟨_, rfl⟩
  rw [eB] at HC hbV hz2 hO
  replace HC := Lib.hid HC
  replace eV := Lib.hid eV
  replace hbV := Lib.hid hbV
  replace hO := Lib.hid hO
  have hz := Lib.hid (show B ≤ V.heap.size by omega)
  replace hz2 := Lib.hid hz2
  obtain ⟨c0, c1⟩ := HC.out V (Below.refl _ _)
  have CL := Lib.hid (fun x => clip_any n x)
  rw [eB]
  cases hU : unB u with
  | false =>
    have LU := Lib.hid (ulook_no u V hU)
    have hTB : toB n u v = false := by unfold toB toK; rw [hU]; rfl
    rw [show toQ n u v = .agg #[.int .i64 0, .int .i64 0] from if_neg (by rw [hTB]; simp), hTB]
    cases hV : unB v with
    | false =>
      have LW := Lib.hid (fun x => ulook_no v x hV)
      go_enter Tryd.func26, Tryd.ntmps26
      go_upto_region 1 with (fail)
      try rw [eB]
      rw [← eV.out]
      go_wp2_with fail
      refine LU.out.mono ?_
      rintro e u1 ⟨rfl, hb⟩
      have k1 := Lib.hid (show Below V.heap.size V u1 from hb)
      clear hb
      obtain ⟨X, eX, hbX, HX⟩ := un_box u1 (⟨#[]⟩) (0) (0) (0)
      have kX := Lib.hid (show Below V.heap.size V X from k1.out.trans (hbX.mono k1.out.size))
      obtain ⟨C, eC⟩ : ∃ C, u1.heap.size = C := ⟨_, rfl⟩
      rw [eC] at HX hbX
      replace eX := Lib.hid eX
      replace HX := Lib.hid HX
      clear hbX c0 c1
      go_upto_region 2 with (fail)
      try rw [eC]
      rw [← eX.out]
      go_wp2_with fail
      refine (LW.out X).mono ?_
      rintro e u2 ⟨rfl, hb⟩
      have k2 := Lib.hid (show Below X.heap.size X u2 from hb)
      have k2V := Lib.hid (show Below V.heap.size V u2 from kX.out.trans (hb.mono kX.out.size))
      clear hb
      obtain ⟨Y, eY, hbY, HY⟩ := un_box u2 (⟨#[]⟩) (0) (0) (0)
      have kY := Lib.hid (show Below V.heap.size V Y from k2V.out.trans (hbY.mono k2V.out.size))
      have kXY := Lib.hid (show Below X.heap.size X Y from k2.out.trans (hbY.mono k2.out.size))
      obtain ⟨D, eD⟩ : ∃ D, u2.heap.size = D := ⟨_, rfl⟩
      rw [eD] at HY hbY
      replace eY := Lib.hid eY
      obtain ⟨y0, y1, y2, y3⟩ := HY Y (Below.refl _ _)
      obtain ⟨x0, x1, x2, x3⟩ := HX.out Y kXY.out
      obtain ⟨c0, c1⟩ := HC.out Y kY.out
      have hH := hO.out.bel kY.out
      obtain ⟨q0, f0⟩ := hH.one 0 rfl
      obtain ⟨q1, f1⟩ := hH.one 1 rfl
      clear hbY HY hH
      go_upto_region 3 with (fail)
      try rw [eD]
      rw [← eY.out]
      go_wp2
      have hH := hO.out.bel kY.out
      have hF := (hH.set 0 (.int .i64 (0)) (by simp)).set 1 (.int .i64 (0)) (by simp)
      have hL := Lib.hid (((hbV.out.trans (kY.out.mono hz.out)).setCell (p := ⟨B + 1, 0, none⟩) (Nat.le_succ B) (.int .i64 (0))).setCell (p := ⟨B + 1, 1, none⟩) (Nat.le_succ B) (.int .i64 (0)))
      generalize (Y.setCell ⟨B + 1, 0, none⟩ (.int .i64 (0))).setCell ⟨B + 1, 1, none⟩ (.int .i64 (0)) = uF at *
      have d0 := (hF.one 0 rfl).1
      have d1 := (hF.one 1 rfl).1
      refine bodyPost_ret (v := .tuple #[.agg #[.int .i64 (0), .int .i64 (0)], .bool false]) (by simp [results, Tryd.results26, go_sem, d0, d1]) rfl ⟨rfl, ?_⟩
      exact hL.out
    | true =>
      have LW := fun x => ulook_ok v x hV
      generalize uN v.toNat = m0 at *
      generalize uK v.toNat = m1 at *
      generalize uA v.toNat = m2 at *
      generalize uB v.toNat = m3 at *
      replace LW := Lib.hid LW
      go_enter Tryd.func26, Tryd.ntmps26
      go_upto_region 1 with (fail)
      try rw [eB]
      rw [← eV.out]
      go_wp2_with fail
      refine LU.out.mono ?_
      rintro e u1 ⟨rfl, hb⟩
      have k1 := Lib.hid (show Below V.heap.size V u1 from hb)
      clear hb
      obtain ⟨X, eX, hbX, HX⟩ := un_box u1 (⟨#[]⟩) (0) (0) (0)
      have kX := Lib.hid (show Below V.heap.size V X from k1.out.trans (hbX.mono k1.out.size))
      obtain ⟨C, eC⟩ : ∃ C, u1.heap.size = C := ⟨_, rfl⟩
      rw [eC] at HX hbX
      replace eX := Lib.hid eX
      replace HX := Lib.hid HX
      clear hbX c0 c1
      go_upto_region 2 with (fail)
      try rw [eC]
      rw [← eX.out]
      go_wp2_with fail
      refine (LW.out X).mono ?_
      rintro e u2 ⟨rfl, hb⟩
      have k2 := Lib.hid (show Below X.heap.size X u2 from hb)
      have k2V := Lib.hid (show Below V.heap.size V u2 from kX.out.trans (hb.mono kX.out.size))
      clear hb
      obtain ⟨Y, eY, hbY, HY⟩ := un_box u2 (m0) (m1) (m2) (m3)
      have kY := Lib.hid (show Below V.heap.size V Y from k2V.out.trans (hbY.mono k2V.out.size))
      have kXY := Lib.hid (show Below X.heap.size X Y from k2.out.trans (hbY.mono k2.out.size))
      obtain ⟨D, eD⟩ : ∃ D, u2.heap.size = D := ⟨_, rfl⟩
      rw [eD] at HY hbY
      replace eY := Lib.hid eY
      obtain ⟨y0, y1, y2, y3⟩ := HY Y (Below.refl _ _)
      obtain ⟨x0, x1, x2, x3⟩ := HX.out Y kXY.out
      obtain ⟨c0, c1⟩ := HC.out Y kY.out
      have hH := hO.out.bel kY.out
      obtain ⟨q0, f0⟩ := hH.one 0 rfl
      obtain ⟨q1, f1⟩ := hH.one 1 rfl
      clear hbY HY hH
      go_upto_region 3 with (fail)
      try rw [eD]
      rw [← eY.out]
      go_wp2
      have hH := hO.out.bel kY.out
      have hF := (hH.set 0 (.int .i64 (0)) (by simp)).set 1 (.int .i64 (0)) (by simp)
      have hL := Lib.hid (((hbV.out.trans (kY.out.mono hz.out)).setCell (p := ⟨B + 1, 0, none⟩) (Nat.le_succ B) (.int .i64 (0))).setCell (p := ⟨B + 1, 1, none⟩) (Nat.le_succ B) (.int .i64 (0)))
      generalize (Y.setCell ⟨B + 1, 0, none⟩ (.int .i64 (0))).setCell ⟨B + 1, 1, none⟩ (.int .i64 (0)) = uF at *
      have d0 := (hF.one 0 rfl).1
      have d1 := (hF.one 1 rfl).1
      refine bodyPost_ret (v := .tuple #[.agg #[.int .i64 (0), .int .i64 (0)], .bool false]) (by simp [results, Tryd.results26, go_sem, d0, d1]) rfl ⟨rfl, ?_⟩
      exact hL.out
  | true =>
    have LU := ulook_ok u V hU
    cases hV : unB v with
    | false =>
      have LW := Lib.hid (fun x => ulook_no v x hV)
      have hTB : toB n u v = false := by unfold toB toK; rw [hV]; simp
      rw [show toQ n u v = .agg #[.int .i64 0, .int .i64 0] from if_neg (by rw [hTB]; simp), hTB]
      generalize uN u.toNat = n0 at *
      generalize uK u.toNat = n1 at *
      generalize uA u.toNat = n2 at *
      generalize uB u.toNat = n3 at *
      replace LU := Lib.hid LU
      go_enter Tryd.func26, Tryd.ntmps26
      go_upto_region 1 with (fail)
      try rw [eB]
      rw [← eV.out]
      go_wp2_with fail
      refine LU.out.mono ?_
      rintro e u1 ⟨rfl, hb⟩
      have k1 := Lib.hid (show Below V.heap.size V u1 from hb)
      clear hb
      obtain ⟨X, eX, hbX, HX⟩ := un_box u1 (n0) (n1) (n2) (n3)
      have kX := Lib.hid (show Below V.heap.size V X from k1.out.trans (hbX.mono k1.out.size))
      obtain ⟨C, eC⟩ : ∃ C, u1.heap.size = C := ⟨_, rfl⟩
      rw [eC] at HX hbX
      replace eX := Lib.hid eX
      replace HX := Lib.hid HX
      clear hbX c0 c1
      go_upto_region 2 with (fail)
      try rw [eC]
      rw [← eX.out]
      go_wp2_with fail
      refine (LW.out X).mono ?_
      rintro e u2 ⟨rfl, hb⟩
      have k2 := Lib.hid (show Below X.heap.size X u2 from hb)
      have k2V := Lib.hid (show Below V.heap.size V u2 from kX.out.trans (hb.mono kX.out.size))
      clear hb
      obtain ⟨Y, eY, hbY, HY⟩ := un_box u2 (⟨#[]⟩) (0) (0) (0)
      have kY := Lib.hid (show Below V.heap.size V Y from k2V.out.trans (hbY.mono k2V.out.size))
      have kXY := Lib.hid (show Below X.heap.size X Y from k2.out.trans (hbY.mono k2.out.size))
      obtain ⟨D, eD⟩ : ∃ D, u2.heap.size = D := ⟨_, rfl⟩
      rw [eD] at HY hbY
      replace eY := Lib.hid eY
      obtain ⟨y0, y1, y2, y3⟩ := HY Y (Below.refl _ _)
      obtain ⟨x0, x1, x2, x3⟩ := HX.out Y kXY.out
      obtain ⟨c0, c1⟩ := HC.out Y kY.out
      have hH := hO.out.bel kY.out
      obtain ⟨q0, f0⟩ := hH.one 0 rfl
      obtain ⟨q1, f1⟩ := hH.one 1 rfl
      clear hbY HY hH
      go_upto_region 3 with (fail)
      try rw [eD]
      rw [← eY.out]
      go_wp2
      have hH := hO.out.bel kY.out
      have hF := (hH.set 0 (.int .i64 (0)) (by simp)).set 1 (.int .i64 (0)) (by simp)
      have hL := Lib.hid (((hbV.out.trans (kY.out.mono hz.out)).setCell (p := ⟨B + 1, 0, none⟩) (Nat.le_succ B) (.int .i64 (0))).setCell (p := ⟨B + 1, 1, none⟩) (Nat.le_succ B) (.int .i64 (0)))
      generalize (Y.setCell ⟨B + 1, 0, none⟩ (.int .i64 (0))).setCell ⟨B + 1, 1, none⟩ (.int .i64 (0)) = uF at *
      have d0 := (hF.one 0 rfl).1
      have d1 := (hF.one 1 rfl).1
      refine bodyPost_ret (v := .tuple #[.agg #[.int .i64 (0), .int .i64 (0)], .bool false]) (by simp [results, Tryd.results26, go_sem, d0, d1]) rfl ⟨rfl, ?_⟩
      exact hL.out
    | true =>
      have LW := fun x => ulook_ok v x hV
      have e1 : uKd u = uK u.toNat := if_pos hU
      have e2 : uKd v = uK v.toNat := if_pos hV
      obtain ⟨i, hui, hi⟩ := unB_k hU
      obtain ⟨j, hvj, hj⟩ := unB_k hV
      have ti : u.toNat = i := by omega
      have tj : v.toNat = j := by omega
      by_cases hk : uK i = uK j
      · have hK : toK u v = true := by unfold toK; rw [hU, hV, e1, e2, ti, tj, hk]; simp
        have hB : toB n u v = nrB (clp n) (uA i * uB j) (uB i * uA j) := by unfold toB; rw [hK, ti, tj]; rfl
        have hVV : toV n u v = nrV (clp n) (uA i * uB j) (uB i * uA j) := by unfold toV; rw [if_pos hK, ti, tj]
        obtain ⟨b1, b2⟩ := u_bd hi
        obtain ⟨b3, b4⟩ := u_bd hj
        have b5 := mul_bd b1 b4
        have b6 := mul_bd' b3 b2
        have b7 := clp_bd n
        have NR := fun x => near_any (clp n) (uA i * uB j) (uB i * uA j) x (by omega) (by omega) (by omega) (by omega) (by omega) (by omega)
        have w1 : IntKind.i64.wrap (uA i * uB j) = uA i * uB j := by rw [IntKind.wrap_i64]; omega
        have w2 : IntKind.i64.wrap (uB i * uA j) = uB i * uA j := by rw [IntKind.wrap_i64]; omega
        rw [ti] at LU
        rw [tj] at LW
        have n1' : (uK i != uK j) = false := by rw [hk]; simp
        unfold toQ
        rw [hB, hVV]
        clear b1 b2 b3 b4 b5 b6 b7 hK e1 e2 hk hB hVV ti tj hui hvj
        generalize uN i = n0 at *
        generalize uK i = n1 at *
        generalize uA i = n2 at *
        generalize uB i = n3 at *
        generalize uN j = m0 at *
        generalize uK j = m1 at *
        generalize uA j = m2 at *
        generalize uB j = m3 at *
        generalize nrV (clp n) (n2 * m3) (n3 * m2) = R at *
        obtain ⟨p, ep⟩ : ∃ p, nrB (clp n) (n2 * m3) (n3 * m2) = p := ⟨_, rfl⟩
        rw [ep] at NR
        rw [ep]
        clear ep
        replace NR := Lib.hid NR
        replace LW := Lib.hid LW
        replace LU := Lib.hid LU
        cases p
        · rw [if_neg (by simp)]
          go_enter Tryd.func26, Tryd.ntmps26
          go_upto_region 1 with (fail)
          try rw [eB]
          rw [← eV.out]
          go_wp2_with fail
          refine LU.out.mono ?_
          rintro e u1 ⟨rfl, hb⟩
          have k1 := Lib.hid (show Below V.heap.size V u1 from hb)
          clear hb
          obtain ⟨X, eX, hbX, HX⟩ := un_box u1 (n0) (n1) (n2) (n3)
          have kX := Lib.hid (show Below V.heap.size V X from k1.out.trans (hbX.mono k1.out.size))
          obtain ⟨C, eC⟩ : ∃ C, u1.heap.size = C := ⟨_, rfl⟩
          rw [eC] at HX hbX
          replace eX := Lib.hid eX
          replace HX := Lib.hid HX
          clear hbX c0 c1
          go_upto_region 2 with (fail)
          try rw [eC]
          rw [← eX.out]
          go_wp2_with fail
          refine (LW.out X).mono ?_
          rintro e u2 ⟨rfl, hb⟩
          have k2 := Lib.hid (show Below X.heap.size X u2 from hb)
          have k2V := Lib.hid (show Below V.heap.size V u2 from kX.out.trans (hb.mono kX.out.size))
          clear hb
          obtain ⟨Y, eY, hbY, HY⟩ := un_box u2 (m0) (m1) (m2) (m3)
          have kY := Lib.hid (show Below V.heap.size V Y from k2V.out.trans (hbY.mono k2V.out.size))
          have kXY := Lib.hid (show Below X.heap.size X Y from k2.out.trans (hbY.mono k2.out.size))
          obtain ⟨D, eD⟩ : ∃ D, u2.heap.size = D := ⟨_, rfl⟩
          rw [eD] at HY hbY
          replace eY := Lib.hid eY
          obtain ⟨y0, y1, y2, y3⟩ := HY Y (Below.refl _ _)
          obtain ⟨x0, x1, x2, x3⟩ := HX.out Y kXY.out
          obtain ⟨c0, c1⟩ := HC.out Y kY.out
          have hH := hO.out.bel kY.out
          obtain ⟨q0, f0⟩ := hH.one 0 rfl
          obtain ⟨q1, f1⟩ := hH.one 1 rfl
          clear hbY HY hH
          go_upto_region 3 with (fail)
          try rw [eD]
          rw [← eY.out]
          go_wp2_with fail
          refine (CL.out Y).mono ?_
          rintro e u3 ⟨rfl, rfl⟩
          go_wp2_with fail
          refine (NR.out Y).mono ?_
          rintro e u4 ⟨rfl, hb⟩
          have k4 := Lib.hid (show Below V.heap.size V u4 from kY.out.trans (hb.mono kY.out.size))
          clear hb q0 q1 f0 f1
          have hH := hO.out.bel k4.out
          obtain ⟨q0, f0⟩ := hH.one 0 rfl
          obtain ⟨q1, f1⟩ := hH.one 1 rfl
          clear hH
          go_wp2
          have hH := hO.out.bel k4.out
          have hF := (hH.set 0 (.int .i64 (0)) (by simp)).set 1 (.int .i64 (0)) (by simp)
          have hL := Lib.hid (((hbV.out.trans (k4.out.mono hz.out)).setCell (p := ⟨B + 1, 0, none⟩) (Nat.le_succ B) (.int .i64 (0))).setCell (p := ⟨B + 1, 1, none⟩) (Nat.le_succ B) (.int .i64 (0)))
          generalize (u4.setCell ⟨B + 1, 0, none⟩ (.int .i64 (0))).setCell ⟨B + 1, 1, none⟩ (.int .i64 (0)) = uF at *
          have d0 := (hF.one 0 rfl).1
          have d1 := (hF.one 1 rfl).1
          refine bodyPost_ret (v := .tuple #[.agg #[.int .i64 (0), .int .i64 (0)], .bool false]) (by simp [results, Tryd.results26, go_sem, d0, d1]) rfl ⟨rfl, ?_⟩
          exact hL.out
        · rw [if_pos rfl]
          go_enter Tryd.func26, Tryd.ntmps26
          go_upto_region 1 with (fail)
          try rw [eB]
          rw [← eV.out]
          go_wp2_with fail
          refine LU.out.mono ?_
          rintro e u1 ⟨rfl, hb⟩
          have k1 := Lib.hid (show Below V.heap.size V u1 from hb)
          clear hb
          obtain ⟨X, eX, hbX, HX⟩ := un_box u1 (n0) (n1) (n2) (n3)
          have kX := Lib.hid (show Below V.heap.size V X from k1.out.trans (hbX.mono k1.out.size))
          obtain ⟨C, eC⟩ : ∃ C, u1.heap.size = C := ⟨_, rfl⟩
          rw [eC] at HX hbX
          replace eX := Lib.hid eX
          replace HX := Lib.hid HX
          clear hbX c0 c1
          go_upto_region 2 with (fail)
          try rw [eC]
          rw [← eX.out]
          go_wp2_with fail
          refine (LW.out X).mono ?_
          rintro e u2 ⟨rfl, hb⟩
          have k2 := Lib.hid (show Below X.heap.size X u2 from hb)
          have k2V := Lib.hid (show Below V.heap.size V u2 from kX.out.trans (hb.mono kX.out.size))
          clear hb
          obtain ⟨Y, eY, hbY, HY⟩ := un_box u2 (m0) (m1) (m2) (m3)
          have kY := Lib.hid (show Below V.heap.size V Y from k2V.out.trans (hbY.mono k2V.out.size))
          have kXY := Lib.hid (show Below X.heap.size X Y from k2.out.trans (hbY.mono k2.out.size))
          obtain ⟨D, eD⟩ : ∃ D, u2.heap.size = D := ⟨_, rfl⟩
          rw [eD] at HY hbY
          replace eY := Lib.hid eY
          obtain ⟨y0, y1, y2, y3⟩ := HY Y (Below.refl _ _)
          obtain ⟨x0, x1, x2, x3⟩ := HX.out Y kXY.out
          obtain ⟨c0, c1⟩ := HC.out Y kY.out
          have hH := hO.out.bel kY.out
          obtain ⟨q0, f0⟩ := hH.one 0 rfl
          obtain ⟨q1, f1⟩ := hH.one 1 rfl
          clear hbY HY hH
          go_upto_region 3 with (fail)
          try rw [eD]
          rw [← eY.out]
          go_wp2_with fail
          refine (CL.out Y).mono ?_
          rintro e u3 ⟨rfl, rfl⟩
          go_wp2_with fail
          refine (NR.out Y).mono ?_
          rintro e u4 ⟨rfl, hb⟩
          have k4 := Lib.hid (show Below V.heap.size V u4 from kY.out.trans (hb.mono kY.out.size))
          clear hb q0 q1 f0 f1
          have hH := hO.out.bel k4.out
          obtain ⟨q0, f0⟩ := hH.one 0 rfl
          obtain ⟨q1, f1⟩ := hH.one 1 rfl
          clear hH
          go_wp2
          have hH := hO.out.bel k4.out
          have hF := (hH.set 0 (.int .i64 (R)) (by simp)).set 1 (.int .i64 (v)) (by simp)
          have hL := Lib.hid (((hbV.out.trans (k4.out.mono hz.out)).setCell (p := ⟨B + 1, 0, none⟩) (Nat.le_succ B) (.int .i64 (R))).setCell (p := ⟨B + 1, 1, none⟩) (Nat.le_succ B) (.int .i64 (v)))
          generalize (u4.setCell ⟨B + 1, 0, none⟩ (.int .i64 (R))).setCell ⟨B + 1, 1, none⟩ (.int .i64 (v)) = uF at *
          have d0 := (hF.one 0 rfl).1
          have d1 := (hF.one 1 rfl).1
          refine bodyPost_ret (v := .tuple #[.agg #[.int .i64 (R), .int .i64 (v)], .bool true]) (by simp [results, Tryd.results26, go_sem, d0, d1]) rfl ⟨rfl, ?_⟩
          exact hL.out
      · have hTB : toB n u v = false := by unfold toB toK; rw [hU, hV, e1, e2, ti, tj]; simp [hk]
        rw [show toQ n u v = .agg #[.int .i64 0, .int .i64 0] from if_neg (by rw [hTB]; simp), hTB]
        have n1' : (uK i != uK j) = true := by simp [hk]
        rw [ti] at LU
        rw [tj] at LW
        clear e1 e2 hk hTB ti tj hui hvj
        generalize uN i = n0 at *
        generalize uK i = n1 at *
        generalize uA i = n2 at *
        generalize uB i = n3 at *
        generalize uN j = m0 at *
        generalize uK j = m1 at *
        generalize uA j = m2 at *
        generalize uB j = m3 at *
        replace LW := Lib.hid LW
        replace LU := Lib.hid LU
        go_enter Tryd.func26, Tryd.ntmps26
        go_upto_region 1 with (fail)
        try rw [eB]
        rw [← eV.out]
        go_wp2_with fail
        refine LU.out.mono ?_
        rintro e u1 ⟨rfl, hb⟩
        have k1 := Lib.hid (show Below V.heap.size V u1 from hb)
        clear hb
        obtain ⟨X, eX, hbX, HX⟩ := un_box u1 (n0) (n1) (n2) (n3)
        have kX := Lib.hid (show Below V.heap.size V X from k1.out.trans (hbX.mono k1.out.size))
        obtain ⟨C, eC⟩ : ∃ C, u1.heap.size = C := ⟨_, rfl⟩
        rw [eC] at HX hbX
        replace eX := Lib.hid eX
        replace HX := Lib.hid HX
        clear hbX c0 c1
        go_upto_region 2 with (fail)
        try rw [eC]
        rw [← eX.out]
        go_wp2_with fail
        refine (LW.out X).mono ?_
        rintro e u2 ⟨rfl, hb⟩
        have k2 := Lib.hid (show Below X.heap.size X u2 from hb)
        have k2V := Lib.hid (show Below V.heap.size V u2 from kX.out.trans (hb.mono kX.out.size))
        clear hb
        obtain ⟨Y, eY, hbY, HY⟩ := un_box u2 (m0) (m1) (m2) (m3)
        have kY := Lib.hid (show Below V.heap.size V Y from k2V.out.trans (hbY.mono k2V.out.size))
        have kXY := Lib.hid (show Below X.heap.size X Y from k2.out.trans (hbY.mono k2.out.size))
        obtain ⟨D, eD⟩ : ∃ D, u2.heap.size = D := ⟨_, rfl⟩
        rw [eD] at HY hbY
        replace eY := Lib.hid eY
        obtain ⟨y0, y1, y2, y3⟩ := HY Y (Below.refl _ _)
        obtain ⟨x0, x1, x2, x3⟩ := HX.out Y kXY.out
        obtain ⟨c0, c1⟩ := HC.out Y kY.out
        have hH := hO.out.bel kY.out
        obtain ⟨q0, f0⟩ := hH.one 0 rfl
        obtain ⟨q1, f1⟩ := hH.one 1 rfl
        clear hbY HY hH
        go_upto_region 3 with (fail)
        try rw [eD]
        rw [← eY.out]
        go_wp2
        have hH := hO.out.bel kY.out
        have hF := (hH.set 0 (.int .i64 (0)) (by simp)).set 1 (.int .i64 (0)) (by simp)
        have hL := Lib.hid (((hbV.out.trans (kY.out.mono hz.out)).setCell (p := ⟨B + 1, 0, none⟩) (Nat.le_succ B) (.int .i64 (0))).setCell (p := ⟨B + 1, 1, none⟩) (Nat.le_succ B) (.int .i64 (0)))
        generalize (Y.setCell ⟨B + 1, 0, none⟩ (.int .i64 (0))).setCell ⟨B + 1, 1, none⟩ (.int .i64 (0)) = uF at *
        have d0 := (hF.one 0 rfl).1
        have d1 := (hF.one 1 rfl).1
        refine bodyPost_ret (v := .tuple #[.agg #[.int .i64 (0), .int .i64 (0)], .bool false]) (by simp [results, Tryd.results26, go_sem, d0, d1]) rfl ⟨rfl, ?_⟩
        exact hL.out
end Go.Proofs.YtfejdbmamaggpaaDoor
