/- A sheet flipped twice; the law SheetFlips, walked. -/
import Derived.Test.YtnfbfggkbpobiaaSheet5
import Derived.Test.YtnfbfggkbpobiaaSheet8
import Derived.Deep.Cut
namespace Go.Proofs.Ytnfbfggkbpobiaa
open Go.ChangeShapes Go.WideShapes Go.ChangeAt Go.RowKit
set_option linter.unusedVariables false
set_option linter.unusedSimpArgs false

theorem flZ_flZ {n m : Nat} {Z : List (List Int)} (hZ : Z.length = n) (hr : ∀ i, i < Z.length → (Z.getD i []).length = m) : flZ m n (flZ n m Z) = Z := by
  refine List.ext_getElem (by rw [flZ_len, hZ]) fun i h1 h2 => ?_
  have e1 : (flZ m n (flZ n m Z))[i] = (flZ m n (flZ n m Z)).getD i [] := by simp [List.getD, h1]
  have e2 : Z[i] = Z.getD i [] := by simp [List.getD, h2]
  have hi : i < n := by omega
  rw [e1, e2, flZ_at _ _ hi]
  refine List.ext_getElem (by rw [colZ_len, hr i h2]) fun k k1 k2 => ?_
  rw [colZ_len] at k1
  have e3 : (colZ m (flZ n m Z) i)[k]'(by rw [colZ_len]; exact k1) = (colZ m (flZ n m Z) i).getD k 0 := by simp [List.getD, colZ_len, k1]
  have e4 : ∀ (R : List Int) (h : k < R.length), R[k] = R.getD k 0 := fun R h => by simp [List.getD, h]
  rw [e3, e4 _ k2, colZ_at _ _ k1, flZ_at _ _ k1, colZ_at _ _ hi]
theorem shB_flip {X Y : List Int} {Z : List (List Int)} (h : shB X Y Z = true) : shB Y X (flZ X.length Y.length Z) = true := by
  obtain ⟨s1, s2, s3, s4, s5, s6⟩ := shB_at h
  obtain ⟨n1, n2, _, r1, r2, _⟩ := rgtB_at s1
  unfold shB sdB rwB
  simp only [Bool.and_eq_true, decide_eq_true_eq]
  refine ⟨⟨s4, s2⟩, ⟨s3, s1⟩, flZ_len _ _ _, fun j hj => ?_⟩
  rw [flZ_len] at hj
  rw [flZ_at _ _ hj]
  unfold rgtB
  have hi : insB (colZ X.length Z j) = true := decide_eq_true fun i hi => by
    rw [colZ_len] at hi
    rw [colZ_at _ _ hi]
    obtain ⟨_, _, l, _, _, q⟩ := rgtB_at (s6 i (by omega))
    exact of_decide_eq_true q j (by omega)
  simp only [Bool.and_eq_true, decide_eq_true_eq]
  exact ⟨⟨⟨⟨⟨n1, n2⟩, colZ_len _ _ _⟩, r1⟩, r2⟩, hi⟩
theorem flip_pt {X Y : List Int} {Z : List (List Int)} (hs : shB X Y Z = true) {i k : Nat} (hi : i < X.length) (hk : k < Y.length) : crF Y (cuL X (flZ X.length Y.length Z) (X.getD i 0)) (Y.getD k 0) = (Z.getD i []).getD k 0 := by
  rw [sheet_pt (shB_flip hs) hk hi, flZ_at _ _ hk, colZ_at _ _ hi]
theorem shf_box (w : World) (a1 a2 a3 : Option Addr) (e1 e2 e3 : Nat) (X Y : List Int) (Z : List (List Int)) (p q : Int) : ∃ V, V = ((w.alloc (.cells #[.slice a1 X.length e1, .slice a2 Y.length e2, .slice a3 Z.length e3] 25)).alloc (.cells #[.int .i64 p, .int .i64 q] 41)) ∧ Below w.heap.size w V ∧ V.heap.size = w.heap.size + 2 ∧ ∀ u, Below (w.heap.size + 2) V u → u.cell? ⟨w.heap.size, 0, none⟩ = some (.slice a1 X.length e1) ∧ u.cell? ⟨w.heap.size, 1, none⟩ = some (.slice a2 Y.length e2) ∧ u.cell? ⟨w.heap.size, 2, none⟩ = some (.slice a3 Z.length e3) ∧ u.cell? ⟨w.heap.size + 1, 0, none⟩ = some (.int .i64 p) ∧ u.cell? ⟨w.heap.size + 1, 1, none⟩ = some (.int .i64 q) :=
  ⟨_, rfl, (by repeat (first | exact Below.refl _ _ | assumption | apply Below.drew | apply below_drewN | (refine Below.alloc ?_ (by first | exact Nat.le_refl _ | omega | (simp <;> omega)) _) | (refine Below.setCell ?_ (by first | exact Nat.le_refl _ | omega | (simp <;> omega)) _))), by simp, fun u hu => ⟨(bc hu (by omega)).trans (by go_simp), (bc hu (by omega)).trans (by go_simp), (bc hu (by omega)).trans (by go_simp), (bc hu (by omega)).trans (by go_simp), (bc hu (by omega)).trans (by go_simp)⟩⟩
theorem shs_box (w : World) (v1 v2 v3 : Value) : ∃ V, V = (w.alloc (.cells #[v1, v2, v3] 25)) ∧ Below w.heap.size w V ∧ V.heap.size = w.heap.size + 1 ∧ ∀ u, Below (w.heap.size + 1) V u → u.cell? ⟨w.heap.size, 0, none⟩ = some v1 ∧ u.cell? ⟨w.heap.size, 1, none⟩ = some v2 ∧ u.cell? ⟨w.heap.size, 2, none⟩ = some v3 :=
  ⟨_, rfl, (by repeat (first | exact Below.refl _ _ | assumption | apply Below.drew | apply below_drewN | (refine Below.alloc ?_ (by first | exact Nat.le_refl _ | omega | (simp <;> omega)) _) | (refine Below.setCell ?_ (by first | exact Nat.le_refl _ | omega | (simp <;> omega)) _))), by simp, fun u hu => ⟨(bc hu (by omega)).trans (by go_simp), (bc hu (by omega)).trans (by go_simp), (bc hu (by omega)).trans (by go_simp)⟩⟩
set_option maxRecDepth 100000 in
set_option maxHeartbeats 8000000 in
theorem law_SheetFlips (a1 a2 a3 : Option Addr) (GA : Nat → Option Addr) (GC : Nat → Nat) (e1 e2 e3 : Nat) (X Y : List Int) (Z : List (List Int)) (p q : Int) (w : World) (hx : RowIs .i64 w a1 X) (hy : RowIs .i64 w a2 Y) (hg : GridIs .i64 w a3 GA GC Z) : Calls Try.prog 6 #[.agg #[.slice a1 X.length e1, .slice a2 Y.length e2, .slice a3 Z.length e3], .agg #[.int .i64 p, .int .i64 q]] w fun e w' => e = .returned (.bool true) ∧ Below w.heap.size w w' := by
  obtain ⟨V, eV, hb0, hz, hcs⟩ := shf_box w a1 a2 a3 e1 e2 e3 X Y Z p q
  have W := fun u (h : Below (w.heap.size + 2) V u) => show Below w.heap.size w u from hb0.trans (h.mono (by omega))
  have LV := Lib.hid (fun u => lives06 u)
  have GR := Lib.hid (fun u (h : Below (w.heap.size + 2) V u) => sgreat a1 a2 a3 GA GC e1 e2 e3 X Y Z u (hg.below (W u h)))
  have RD := Lib.hid (fun hX hY hZ hR u (h : Below (w.heap.size + 2) V u) => rright06 a1 a2 a3 GA GC e1 e2 e3 X Y Z u (hx.below (W u h)) (hy.below (W u h)) (hg.below (W u h)) hX hY hZ hR)
  have FN := Lib.hid (fun hX hY hZ hR hs u (h : Below (w.heap.size + 2) V u) => sflip_no a1 a2 a3 GA GC e1 e2 e3 X Y Z u (hx.below (W u h)) (hy.below (W u h)) (hg.below (W u h)) hX hY hZ hR hs)
  have FO := Lib.hid (fun hX hY hZ hR hs u (h : Below (w.heap.size + 2) V u) => sflip_ok a1 a2 a3 GA GC e1 e2 e3 X Y Z u (hx.below (W u h)) (hy.below (W u h)) (hg.below (W u h)) hX hY hZ hR hs)
  have GG := Lib.hid (fun u (h : Below (w.heap.size + 2) V u) => fun i (hi : i < Z.length) => (hg.below (W u h)).at hi)
  have GW := Lib.hid (fun u (h : Below (w.heap.size + 2) V u) => (hg.below (W u h)))
  have GR2 := Lib.hid (fun u (h : Below (w.heap.size + 2) V u) => fun i (hi : i < Z.length) => (hg.below (W u h)).rows i hi)
  have HX := Lib.hid (fun u (h : Below (w.heap.size + 2) V u) => hx.below (W u h))
  have HY := Lib.hid (fun u (h : Below (w.heap.size + 2) V u) => hy.below (W u h))
  clear hx hy hg W
  replace hb0 := Lib.hid hb0
  replace hz := Lib.hid hz
  replace hcs := Lib.hid hcs
  replace eV := Lib.hid eV
  go_enter Try.func6, Try.ntmps6
  go_wp2_with fail
  rw [← eV.out]
  obtain ⟨k0, k1, k2, k3, k4⟩ := hcs.out _ (Below.refl _ _)
  go_wp2_with fail
  refine (GR.out _ (Below.refl _ _)).mono ?_
  rintro e w1 ⟨g, rfl, hgb, hb1⟩
  have hb1 := (Below.refl (w.heap.size + 2) V).trans (hb1.mono (Nat.le_of_eq hz.out.symm))
  obtain ⟨k0, k1, k2, k3, k4⟩ := hcs.out _ hb1
  cases g
  case true =>
    clear hgb RD FN FO GG GW GR2 HX HY
    go_wp2_with fail
    refine (LV.out _).mono ?_
    rintro e w20 ⟨rfl, hb20⟩
    have hb20 := hb1.trans (hb20.mono (by have := hb1.size; have := hz.out; omega))
    go_wp2
    go_ret
    exact ⟨by first | rfl | simp, hb0.out.trans (hb20.mono (by omega))⟩
  case false =>
  obtain ⟨hX, hY, hZ, hR⟩ := hgb rfl
  have RD1 := RD.out hX hY hZ hR
  cases hs : shB X Y Z
  · rw [hs] at RD1
    replace RD1 := Lib.hid RD1
    have FN1 := Lib.hid (FN.out hX hY hZ hR hs)
    clear hgb RD FN FO GG GW GR2 HX HY hX hY hZ hR hs
    go_wp2_with fail
    refine (FN1.out _ hb1).mono ?_
    rintro e w2 ⟨rfl, hb2⟩
    have hb2 := hb1.trans (hb2.mono (by have := hb1.size; have := hz.out; omega))
    clear hb1 k0 k1 k2 k3 k4
    go_upto_region 4 with (fail)
    obtain ⟨V1, eV1, mV1, zV1, hcs1⟩ := shs_box w2 (.slice none 0 0) (.slice none 0 0) (.slice none 0 0)
    have hbV1 := hb2.trans (mV1.mono (by have := hb2.size; have := hz.out; omega))
    replace eV1 := Lib.hid eV1
    rw [← eV1.out]
    have hm1 : Below (w2.heap.size + 1) V1 V1 := Below.refl _ _
    have hs1 := Lib.hid (show V1.heap.size = w2.heap.size + 1 from zV1)
    replace hcs1 := Lib.hid hcs1
    obtain ⟨j0, j1, j2⟩ := hcs1.out _ hm1
    obtain ⟨k0, k1, k2, k3, k4⟩ := hcs.out _ hbV1
    clear mV1 zV1 hb2
    go_wp2_with fail
    refine (RD1.out _ hbV1).mono ?_
    rintro e w3 ⟨rfl, hb3⟩
    have hm3 := hm1.trans (hb3.mono (by have := hs1.out; omega))
    have hb3 := hbV1.trans (hb3.mono (by have := hbV1.size; have := hz.out; omega))
    clear hbV1 hm1 j0 j1 j2 k0 k1 k2 k3 k4
    obtain ⟨k0, k1, k2, k3, k4⟩ := hcs.out _ hb3
    obtain ⟨j0, j1, j2⟩ := hcs1.out _ hm3
    go_wp2_with fail
    refine (LV.out _).mono ?_
    rintro e w20 ⟨rfl, hb20⟩
    have hb20 := hb3.trans (hb20.mono (by have := hb3.size; have := hz.out; omega))
    go_wp2
    go_ret
    exact ⟨by first | rfl | simp, hb0.out.trans (hb20.mono (by omega))⟩
  obtain ⟨s1, s2, s3, s4, s5, s6⟩ := shB_at hs
  obtain ⟨n1, n2, _⟩ := rgtB_at s1
  obtain ⟨n3, n4, _⟩ := rgtB_at s2
  have RL := Lib.hid (fun i (hi : i < Z.length) => show (Z.getD i []).length = Y.length from (rgtB_at (s6 i hi)).2.2.1)
  have FZ := Lib.hid (flZ_flZ s5 (fun i hi => (rgtB_at (s6 i hi)).2.2.1))
  have SF := Lib.hid (shB_flip hs)
  have SP := Lib.hid (fun i k hi hk => flip_pt hs (i := i) (k := k) hi hk)
  have NL := Lib.hid (show Z.length = X.length ∧ 2 ≤ X.length ∧ X.length ≤ 16 ∧ 2 ≤ Y.length ∧ Y.length ≤ 16 from ⟨by omega, by omega, by omega, by omega, by omega⟩)
  rw [hs] at RD1
  replace RD1 := Lib.hid RD1
  have FO1 := Lib.hid (FO.out hX hY hZ hR hs)
  have FL := Lib.hid (flZ_len X.length Y.length Z)
  have FA := Lib.hid (fun j (hj : j < Y.length) => show ((flZ X.length Y.length Z).getD j []).length = X.length from by rw [flZ_at _ _ hj, colZ_len])
  have FV := Lib.hid (fun j k (hj : j < Y.length) (hk : k < X.length) => show ((flZ X.length Y.length Z).getD j []).getD k 0 = (Z.getD k []).getD j 0 from by rw [flZ_at _ _ hj, colZ_at _ _ hk])
  obtain ⟨F, hF⟩ : ∃ F, F = flZ X.length Y.length Z := ⟨_, rfl⟩
  rw [← hF] at FZ SF FL FA FV SP
  replace hF := Lib.hid hF
  clear hgb RD FN FO hX hY hZ hR hs s1 s2 s3 s4 s5 s6 n1 n2 n3 n4
  go_wp2_with fail
  refine (FO1.out _ hb1).mono ?_
  rintro e w2 ⟨g1, c1, g2, c2, g3, c3, G, rfl, x1, x2, xg, hb2⟩
  have hb2 := hb1.trans (hb2.mono (by have := hb1.size; have := hz.out; omega))
  clear hb1 FO1 k0 k1 k2 k3 k4
  rw [← hF.out] at xg
  replace x1 := Lib.hid x1
  replace x2 := Lib.hid x2
  replace xg := Lib.hid xg
  go_upto_region 4 with (fail)
  obtain ⟨V1, eV1, mV1, zV1, hcs1⟩ := shs_box w2 (.slice (some ⟨g1, 0, none⟩) Y.length c1) (.slice (some ⟨g2, 0, none⟩) X.length c2) (.slice (some ⟨g3, 0, none⟩) Y.length c3)
  have hbV1 := hb2.trans (mV1.mono (by have := hb2.size; have := hz.out; omega))
  replace eV1 := Lib.hid eV1
  rw [← eV1.out]
  have hm1 : Below (w2.heap.size + 1) V1 V1 := Below.refl _ _
  have hs1 := Lib.hid (show V1.heap.size = w2.heap.size + 1 from zV1)
  replace hcs1 := Lib.hid hcs1
  obtain ⟨j0, j1, j2⟩ := hcs1.out _ hm1
  obtain ⟨k0, k1, k2, k3, k4⟩ := hcs.out _ hbV1
  clear zV1 hb2
  replace x1 := Lib.hid (fun u (h : Below (w2.heap.size + 1) V1 u) => x1.out.below (mV1.trans (h.mono (by omega))))
  replace x2 := Lib.hid (fun u (h : Below (w2.heap.size + 1) V1 u) => x2.out.below (mV1.trans (h.mono (by omega))))
  replace xg := Lib.hid (fun u (h : Below (w2.heap.size + 1) V1 u) => xg.out.below (mV1.trans (h.mono (by omega))))
  have hbV1k := Lib.hid hbV1
  have hw2 := Lib.hid (show w.heap.size + 2 ≤ w2.heap.size + 1 from by have := hbV1.size; have := hz.out; have := hs1.out; omega)
  have GF := Lib.hid (fun u (h : Below (w2.heap.size + 1) V1 u) j (hj : j < Y.length) => show u.cell? ⟨g3, j, none⟩ = some (.slice (some ⟨G j, 0, none⟩) X.length X.length) from by
      obtain ⟨b, o, e, _, c⟩ := (xg.out u h).at (i := j) (by rw [FL.out]; exact hj)
      injection e with e
      injection e with e1' e2'
      subst e1' e2'
      rw [FA.out j hj, Nat.zero_add] at c
      exact c)
  have GV := Lib.hid (fun u (h : Below (w2.heap.size + 1) V1 u) j k (hj : j < Y.length) (hk : k < X.length) => show u.cell? ⟨G j, k, none⟩ = some (.int .i64 ((Z.getD k []).getD j 0)) from by
      obtain ⟨b, o, e, _, c⟩ := ((xg.out u h).rows j (by rw [FL.out]; exact hj)).at (i := k) (by rw [FA.out j hj]; exact hk)
      injection e with e
      injection e with e1' e2'
      subst e1' e2'
      rw [FV.out j k hj hk, Nat.zero_add] at c
      exact c)
  have AP0 := Lib.hid (fun i k (hi : i < X.length) (hk : k < Y.length) u (h : Below (w2.heap.size + 1) V1 u) => show Calls Try.prog 17 #[.agg #[.slice (some ⟨g1, 0, none⟩) Y.length c1, .slice (some ⟨g2, 0, none⟩) X.length c2, .slice (some ⟨g3, 0, none⟩) Y.length c3], .int .i64 (Y.getD k 0), .int .i64 (X.getD i 0)] u fun e w' => e = .returned (.tuple #[.int .i64 ((Z.getD i []).getD k 0), .bool true]) ∧ Below u.heap.size u w' from by
      have := sat_any (some ⟨g1, 0, none⟩) (some ⟨g2, 0, none⟩) (some ⟨g3, 0, none⟩) (fun t => some ⟨G t, 0, none⟩) (fun _ => X.length) c1 c2 c3 Y X F (Y.getD k 0) (X.getD i 0) u (x1.out u h) (x2.out u h) (xg.out u h) (by have := NL.out; omega) (by have := NL.out; omega) (by have := NL.out; have := FL.out; omega) (fun i hi => by rw [FA.out i (by rw [FL.out] at hi; exact hi)]; have := NL.out; omega)
      rw [FL.out, SF.out, SP.out i k hi hk] at this
      simpa only [if_true] using this)
  replace mV1 := Lib.hid mV1
  have FO2 := Lib.hid (fun u (h : Below (w2.heap.size + 1) V1 u) => show Calls Try.prog 25 #[.agg #[.slice (some ⟨g1, 0, none⟩) Y.length c1, .slice (some ⟨g2, 0, none⟩) X.length c2, .slice (some ⟨g3, 0, none⟩) Y.length c3]] u (FlipP Y X F u) from by
      have := sflip_ok (some ⟨g1, 0, none⟩) (some ⟨g2, 0, none⟩) (some ⟨g3, 0, none⟩) (fun t => some ⟨G t, 0, none⟩) (fun _ => X.length) c1 c2 c3 Y X F u (x1.out u h) (x2.out u h) (xg.out u h) (by have := NL.out; omega) (by have := NL.out; omega) (by have := NL.out; have := FL.out; omega) (fun i hi => by rw [FA.out i (by rw [FL.out] at hi; exact hi)]; have := NL.out; omega) SF.out
      rw [FL.out] at this
      exact this)
  go_wp2_with fail
  refine (RD1.out _ hbV1).mono ?_
  rintro e w3 ⟨rfl, hb3⟩
  have hm3 := hm1.trans (hb3.mono (by have := hs1.out; omega))
  have hb3 := hbV1.trans (hb3.mono (by have := hbV1.size; have := hz.out; omega))
  clear hbV1 hm1 j0 j1 j2 RD1 k0 k1 k2 k3 k4
  obtain ⟨k0, k1, k2, k3, k4⟩ := hcs.out _ hb3
  obtain ⟨j0, j1, j2⟩ := hcs1.out _ hm3
  go_wp2_with fail
  refine (FO2.out _ hm3).mono ?_
  rintro e w4 ⟨h1, m1, h2, m2, h3, m3, H, rfl, y1, y2, yg, hb4⟩
  rw [FZ.out] at yg
  have hm4 := hm3.trans (hb4.mono (by have := hm3.size; have := hs1.out; omega))
  have hb4 := hb3.trans (hb4.mono (by have := hb3.size; have := hz.out; omega))
  clear hm3 hb3 j0 j1 j2 FO2 k0 k1 k2 k3 k4
  replace y1 := Lib.hid y1
  replace y2 := Lib.hid y2
  replace yg := Lib.hid yg
  go_upto_region 7 with (fail)
  obtain ⟨V2, eV2, mV2, zV2, hcs2⟩ := shs_box w4 (.slice (some ⟨h1, 0, none⟩) X.length m1) (.slice (some ⟨h2, 0, none⟩) Y.length m2) (.slice (some ⟨h3, 0, none⟩) X.length m3)
  have hbV2 := hb4.trans (mV2.mono (by have := hb4.size; have := hz.out; omega))
  replace eV2 := Lib.hid eV2
  rw [← eV2.out]
  have hn2 : Below (w4.heap.size + 1) V2 V2 := Below.refl _ _
  have hs2 := Lib.hid (show V2.heap.size = w4.heap.size + 1 from zV2)
  replace hcs2 := Lib.hid hcs2
  obtain ⟨i0, i1, i2⟩ := hcs2.out _ hn2
  obtain ⟨k0, k1, k2, k3, k4⟩ := hcs.out _ hbV2
  have hmV2 := hm4.trans (mV2.mono (by have := hm4.size; have := hs1.out; omega))
  obtain ⟨j0, j1, j2⟩ := hcs1.out _ hmV2
  clear hb4 hm4 zV2
  have SM := Lib.hid (show ∀ n, n = Z.length → Calls Try.prog 26 #[.agg #[.slice (some ⟨h1, 0, none⟩) X.length m1, .slice (some ⟨h2, 0, none⟩) Y.length m2, .slice (some ⟨h3, 0, none⟩) n m3], .agg #[.slice a1 X.length e1, .slice a2 Y.length e2, .slice a3 Z.length e3]] V2 fun e w' => e = .returned (.bool true) ∧ Below V2.heap.size V2 w' from fun n hn => by
      subst hn
      exact rsame06 (some ⟨h1, 0, none⟩) (some ⟨h2, 0, none⟩) (some ⟨h3, 0, none⟩) a1 a2 a3 (fun t => some ⟨H t, 0, none⟩) GA (fun _ => Y.length) GC m1 m2 m3 e1 e2 e3 X Y Z V2 (y1.out.below mV2) (y2.out.below mV2) (yg.out.below mV2) (HX.out _ hbV2) (HY.out _ hbV2) (GW.out _ hbV2) (by have := NL.out; omega) (by have := NL.out; omega) (by have := NL.out; omega) (fun i hi => by rw [RL.out i hi]; have := NL.out; omega))
  have SM1 := SM.out X.length (by have := NL.out; omega)
  replace SM1 := Lib.hid SM1
  clear SM y1 y2 yg mV2
  have q1 : ((Y.length : Int) != (Y.length : Int)) = false := by simp
  go_wp2_with fail
  refine SM1.out.mono ?_
  rintro e w5 ⟨rfl, hb5⟩
  have hm5 := hmV2.trans (hb5.mono (by have := hmV2.size; have := hs1.out; omega))
  have hb5 := hbV2.trans (hb5.mono (by have := hbV2.size; have := hz.out; omega))
  clear hbV2 hmV2 hn2 j0 j1 j2 i0 i1 i2 SM1 k0 k1 k2 k3 k4
  obtain ⟨k0, k1, k2, k3, k4⟩ := hcs.out _ hb5
  obtain ⟨j0, j1, j2⟩ := hcs1.out _ hm5
  have hV1 := Lib.hid (fun u (h : Below (w2.heap.size + 1) V1 u) => hbV1k.out.trans (h.mono hw2.out))
  go_wp2_with fail
  go_loopw [9] (fun i v => ∃ j : Nat, j ≤ Y.length ∧ i = .int .i64 (j : Int) ∧ Below (w2.heap.size + 1) V1 v) (fun i _ => Y.length - (intOf i).toNat)
  case atStart => exact ⟨0, by omega, rfl, hm5⟩
  case round =>
    clear hm5 hb5 j0 j1 j2 k0 k1 k2 k3 k4
    obtain ⟨j, hj, rfl, hm⟩ := hrel
    have hb := hV1.out _ hm
    obtain ⟨k0, k1, k2, k3, k4⟩ := hcs.out _ hb
    obtain ⟨j0, j1, j2⟩ := hcs1.out _ hm
    have b16 : (X.length : Int) ≤ 16 := by have := NL.out; omega
    have b17 : (Y.length : Int) ≤ 16 := by have := NL.out; omega
    by_cases hlt : j < Y.length
    · have l1 : (j : Int) < (Y.length : Int) := by omega
      have l0 : 0 ≤ (j : Int) := by omega
      have c9 := GF.out _ hm j hlt
      have d1 : ((X.length : Int) != (X.length : Int)) = false := by simp
      go_wp2_with fail
      refine region_still [] [(.free, 0), (.take, 1), (.free, 2), (.free, 3), (.take, 4), (.free, 5), (.free, 6), (.take, 7), (.free, 8), (.free, 9)] _ (by kernel_rfl) (by kernel_rfl) (by kernel_rfl) (by kernel_rfl) (by decide) rfl (fun _ _ _ _ _ h => h) ?_
      simp only [List.filterMap_cons, List.filterMap_nil, List.getElem?_toArray, List.getElem?_cons_zero, List.getElem?_cons_succ, Option.map_some]
      iterate 1
        first
          | (refine mv_free ?_ (Or.inl ⟨by rfl, ?_⟩) (rfl) ?_
             rotate_left 1
             · intro u
               go_simp
               try simp only [d1]
               try simp only [d2]
               try simp only [d3]
               try with_reducible rfl
             simp only [Act.put, List.setIfInBounds_toArray, List.set_cons_zero, List.set_cons_succ])
          | (refine mv_free _ (Or.inr ⟨by rfl, rfl⟩) (rfl) ?_
             simp only [Act.put, List.setIfInBounds_toArray, List.set_cons_zero, List.set_cons_succ])
      iterate 1
        first
          | (refine mv_take ?_ (Or.inl ⟨by rfl, ?_⟩) (rfl) ?_
             rotate_left 1
             · intro u hu
               (try dsimp only at hu)
               go_simp
               try with_reducible rfl
             simp only [Act.put, List.setIfInBounds_toArray, List.set_cons_zero, List.set_cons_succ])
          | (refine mv_take _ (Or.inr ⟨by rfl, rfl⟩) (rfl) ?_
             simp only [Act.put, List.setIfInBounds_toArray, List.set_cons_zero, List.set_cons_succ])
      iterate 2
        first
          | (refine mv_free ?_ (Or.inl ⟨by rfl, ?_⟩) (rfl) ?_
             rotate_left 1
             · intro u
               go_simp
               try simp only [d1]
               try simp only [d2]
               try simp only [d3]
               try with_reducible rfl
             simp only [Act.put, List.setIfInBounds_toArray, List.set_cons_zero, List.set_cons_succ])
          | (refine mv_free _ (Or.inr ⟨by rfl, rfl⟩) (rfl) ?_
             simp only [Act.put, List.setIfInBounds_toArray, List.set_cons_zero, List.set_cons_succ])
      iterate 1
        first
          | (refine mv_take ?_ (Or.inl ⟨by rfl, ?_⟩) (rfl) ?_
             rotate_left 1
             · intro u hu
               (try dsimp only at hu)
               go_simp
               try with_reducible rfl
             simp only [Act.put, List.setIfInBounds_toArray, List.set_cons_zero, List.set_cons_succ])
          | (refine mv_take _ (Or.inr ⟨by rfl, rfl⟩) (rfl) ?_
             simp only [Act.put, List.setIfInBounds_toArray, List.set_cons_zero, List.set_cons_succ])
      iterate 2
        first
          | (refine mv_free ?_ (Or.inl ⟨by rfl, ?_⟩) (rfl) ?_
             rotate_left 1
             · intro u
               go_simp
               try simp only [d1]
               try simp only [d2]
               try simp only [d3]
               try with_reducible rfl
             simp only [Act.put, List.setIfInBounds_toArray, List.set_cons_zero, List.set_cons_succ])
          | (refine mv_free _ (Or.inr ⟨by rfl, rfl⟩) (rfl) ?_
             simp only [Act.put, List.setIfInBounds_toArray, List.set_cons_zero, List.set_cons_succ])
      iterate 1
        first
          | (refine mv_take ?_ (Or.inl ⟨by rfl, ?_⟩) (rfl) ?_
             rotate_left 1
             · intro u hu
               (try dsimp only at hu)
               go_simp
               try with_reducible rfl
             simp only [Act.put, List.setIfInBounds_toArray, List.set_cons_zero, List.set_cons_succ])
          | (refine mv_take _ (Or.inr ⟨by rfl, rfl⟩) (rfl) ?_
             simp only [Act.put, List.setIfInBounds_toArray, List.set_cons_zero, List.set_cons_succ])
      iterate 2
        first
          | (refine mv_free ?_ (Or.inl ⟨by rfl, ?_⟩) (rfl) ?_
             rotate_left 1
             · intro u
               go_simp
               try simp only [d1]
               try simp only [d2]
               try simp only [d3]
               try with_reducible rfl
             simp only [Act.put, List.setIfInBounds_toArray, List.set_cons_zero, List.set_cons_succ])
          | (refine mv_free _ (Or.inr ⟨by rfl, rfl⟩) (rfl) ?_
             simp only [Act.put, List.setIfInBounds_toArray, List.set_cons_zero, List.set_cons_succ])
      refine mv_done ?_
      go_wp2_with fail
      clear c9 j0 j1 j2 k0 k1 k2 k3 k4
      replace hm := hm.drew
      go_loopw [10] (fun i v => ∃ k : Nat, k ≤ X.length ∧ i = .int .i64 (k : Int) ∧ Below (w2.heap.size + 1) V1 v) (fun i _ => X.length - (intOf i).toNat)
      case atStart => exact ⟨0, by omega, rfl, hm⟩
      case round =>
        clear hm hb
        obtain ⟨k, hk, rfl, hm⟩ := hrel
        have hb := hV1.out _ hm
        obtain ⟨k0, k1, k2, k3, k4⟩ := hcs.out _ hb
        obtain ⟨j0, j1, j2⟩ := hcs1.out _ hm
        have c9 := GF.out _ hm j hlt
        by_cases hlk : k < X.length
        · have kz : k < Z.length := by have := NL.out; omega
          have r1 : (k : Int) < (X.length : Int) := by omega
          have r2 : (k : Int) < (Z.length : Int) := by omega
          have r0 : 0 ≤ (k : Int) := by omega
          have c8 := GV.out _ hm j k hlt hlk
          obtain ⟨bz, oz, ez, -, c7⟩ := GG.out _ hb k kz
          obtain ⟨br, or_, er, -, c6⟩ := (GR2.out _ hb k kz).at (show j < (Z.getD k []).length by rw [RL.out k kz]; exact hlt)
          rw [RL.out k kz, er] at c7
          subst ez
          generalize (Z.getD k []).getD j 0 = v at *
          have d1 : (v != v) = false := by simp
          replace er := Lib.hid er
          clear kz
          go_wp2_with fail
          refine region_still [] [(.free, 0), (.take, 1), (.free, 2), (.free, 3), (.take, 4), (.free, 5), (.free, 6), (.take, 7), (.free, 8), (.take, 9), (.free, 10), (.free, 11), (.take, 12), (.free, 13), (.free, 14), (.take, 15), (.free, 16)] _ (by kernel_rfl) (by kernel_rfl) (by kernel_rfl) (by kernel_rfl) (by decide) rfl (fun _ _ _ _ _ h => h) ?_
          simp only [List.filterMap_cons, List.filterMap_nil, List.getElem?_toArray, List.getElem?_cons_zero, List.getElem?_cons_succ, Option.map_some]
          iterate 1
            first
              | (refine mv_free ?_ (Or.inl ⟨by rfl, ?_⟩) (rfl) ?_
                 rotate_left 1
                 · intro u
                   go_simp
                   try simp only [d1]
                   try simp only [d2]
                   try simp only [d3]
                   try with_reducible rfl
                 simp only [Act.put, List.setIfInBounds_toArray, List.set_cons_zero, List.set_cons_succ])
              | (refine mv_free _ (Or.inr ⟨by rfl, rfl⟩) (rfl) ?_
                 simp only [Act.put, List.setIfInBounds_toArray, List.set_cons_zero, List.set_cons_succ])
          iterate 1
            first
              | (refine mv_take ?_ (Or.inl ⟨by rfl, ?_⟩) (rfl) ?_
                 rotate_left 1
                 · intro u hu
                   (try dsimp only at hu)
                   go_simp
                   try with_reducible rfl
                 simp only [Act.put, List.setIfInBounds_toArray, List.set_cons_zero, List.set_cons_succ])
              | (refine mv_take _ (Or.inr ⟨by rfl, rfl⟩) (rfl) ?_
                 simp only [Act.put, List.setIfInBounds_toArray, List.set_cons_zero, List.set_cons_succ])
          iterate 2
            first
              | (refine mv_free ?_ (Or.inl ⟨by rfl, ?_⟩) (rfl) ?_
                 rotate_left 1
                 · intro u
                   go_simp
                   try simp only [d1]
                   try simp only [d2]
                   try simp only [d3]
                   try with_reducible rfl
                 simp only [Act.put, List.setIfInBounds_toArray, List.set_cons_zero, List.set_cons_succ])
              | (refine mv_free _ (Or.inr ⟨by rfl, rfl⟩) (rfl) ?_
                 simp only [Act.put, List.setIfInBounds_toArray, List.set_cons_zero, List.set_cons_succ])
          iterate 1
            first
              | (refine mv_take ?_ (Or.inl ⟨by rfl, ?_⟩) (rfl) ?_
                 rotate_left 1
                 · intro u hu
                   (try dsimp only at hu)
                   go_simp
                   try with_reducible rfl
                 simp only [Act.put, List.setIfInBounds_toArray, List.set_cons_zero, List.set_cons_succ])
              | (refine mv_take _ (Or.inr ⟨by rfl, rfl⟩) (rfl) ?_
                 simp only [Act.put, List.setIfInBounds_toArray, List.set_cons_zero, List.set_cons_succ])
          iterate 2
            first
              | (refine mv_free ?_ (Or.inl ⟨by rfl, ?_⟩) (rfl) ?_
                 rotate_left 1
                 · intro u
                   go_simp
                   try simp only [d1]
                   try simp only [d2]
                   try simp only [d3]
                   try with_reducible rfl
                 simp only [Act.put, List.setIfInBounds_toArray, List.set_cons_zero, List.set_cons_succ])
              | (refine mv_free _ (Or.inr ⟨by rfl, rfl⟩) (rfl) ?_
                 simp only [Act.put, List.setIfInBounds_toArray, List.set_cons_zero, List.set_cons_succ])
          iterate 1
            first
              | (refine mv_take ?_ (Or.inl ⟨by rfl, ?_⟩) (rfl) ?_
                 rotate_left 1
                 · intro u hu
                   (try dsimp only at hu)
                   go_simp
                   try with_reducible rfl
                 simp only [Act.put, List.setIfInBounds_toArray, List.set_cons_zero, List.set_cons_succ])
              | (refine mv_take _ (Or.inr ⟨by rfl, rfl⟩) (rfl) ?_
                 simp only [Act.put, List.setIfInBounds_toArray, List.set_cons_zero, List.set_cons_succ])
          iterate 1
            first
              | (refine mv_free ?_ (Or.inl ⟨by rfl, ?_⟩) (rfl) ?_
                 rotate_left 1
                 · intro u
                   go_simp
                   try simp only [d1]
                   try simp only [d2]
                   try simp only [d3]
                   try with_reducible rfl
                 simp only [Act.put, List.setIfInBounds_toArray, List.set_cons_zero, List.set_cons_succ])
              | (refine mv_free _ (Or.inr ⟨by rfl, rfl⟩) (rfl) ?_
                 simp only [Act.put, List.setIfInBounds_toArray, List.set_cons_zero, List.set_cons_succ])
          iterate 1
            first
              | (refine mv_take ?_ (Or.inl ⟨by rfl, ?_⟩) (rfl) ?_
                 rotate_left 1
                 · intro u hu
                   (try dsimp only at hu)
                   go_simp
                   try with_reducible rfl
                 simp only [Act.put, List.setIfInBounds_toArray, List.set_cons_zero, List.set_cons_succ])
              | (refine mv_take _ (Or.inr ⟨by rfl, rfl⟩) (rfl) ?_
                 simp only [Act.put, List.setIfInBounds_toArray, List.set_cons_zero, List.set_cons_succ])
          iterate 2
            first
              | (refine mv_free ?_ (Or.inl ⟨by rfl, ?_⟩) (rfl) ?_
                 rotate_left 1
                 · intro u
                   go_simp
                   try simp only [d1]
                   try simp only [d2]
                   try simp only [d3]
                   try with_reducible rfl
                 simp only [Act.put, List.setIfInBounds_toArray, List.set_cons_zero, List.set_cons_succ])
              | (refine mv_free _ (Or.inr ⟨by rfl, rfl⟩) (rfl) ?_
                 simp only [Act.put, List.setIfInBounds_toArray, List.set_cons_zero, List.set_cons_succ])
          iterate 1
            first
              | (refine mv_take ?_ (Or.inl ⟨by rfl, ?_⟩) (rfl) ?_
                 rotate_left 1
                 · intro u hu
                   (try dsimp only at hu)
                   go_simp
                   try with_reducible rfl
                 simp only [Act.put, List.setIfInBounds_toArray, List.set_cons_zero, List.set_cons_succ])
              | (refine mv_take _ (Or.inr ⟨by rfl, rfl⟩) (rfl) ?_
                 simp only [Act.put, List.setIfInBounds_toArray, List.set_cons_zero, List.set_cons_succ])
          iterate 2
            first
              | (refine mv_free ?_ (Or.inl ⟨by rfl, ?_⟩) (rfl) ?_
                 rotate_left 1
                 · intro u
                   go_simp
                   try simp only [d1]
                   try simp only [d2]
                   try simp only [d3]
                   try with_reducible rfl
                 simp only [Act.put, List.setIfInBounds_toArray, List.set_cons_zero, List.set_cons_succ])
              | (refine mv_free _ (Or.inr ⟨by rfl, rfl⟩) (rfl) ?_
                 simp only [Act.put, List.setIfInBounds_toArray, List.set_cons_zero, List.set_cons_succ])
          iterate 1
            first
              | (refine mv_take ?_ (Or.inl ⟨by rfl, ?_⟩) (rfl) ?_
                 rotate_left 1
                 · intro u hu
                   (try dsimp only at hu)
                   go_simp
                   try with_reducible rfl
                 simp only [Act.put, List.setIfInBounds_toArray, List.set_cons_zero, List.set_cons_succ])
              | (refine mv_take _ (Or.inr ⟨by rfl, rfl⟩) (rfl) ?_
                 simp only [Act.put, List.setIfInBounds_toArray, List.set_cons_zero, List.set_cons_succ])
          iterate 1
            first
              | (refine mv_free ?_ (Or.inl ⟨by rfl, ?_⟩) (rfl) ?_
                 rotate_left 1
                 · intro u
                   go_simp
                   try simp only [d1]
                   try simp only [d2]
                   try simp only [d3]
                   try with_reducible rfl
                 simp only [Act.put, List.setIfInBounds_toArray, List.set_cons_zero, List.set_cons_succ])
              | (refine mv_free _ (Or.inr ⟨by rfl, rfl⟩) (rfl) ?_
                 simp only [Act.put, List.setIfInBounds_toArray, List.set_cons_zero, List.set_cons_succ])
          refine mv_done ?_
          go_wp2
          go_roundw
          case rel => exact ⟨k + 1, by omega, by go_num, hm.drew⟩
          case measure => simp [intOf]; omega
        · have hge : (X.length : Int) ≤ (k : Int) := by omega
          go_wp2
          go_roundw
          case rel => exact ⟨j + 1, by omega, by go_num, hm⟩
          case measure => simp [intOf]; omega
    · have hge : (Y.length : Int) ≤ (j : Int) := by omega
      have xl := Lib.hid (show (X.length : Int) = (Z.length : Int) from by have := NL.out; omega)
      go_upto_region 19 with (fail)
      rcases (show p < 0 ∨ (0 ≤ p ∧ (X.length : Int) ≤ p) ∨ (0 ≤ p ∧ p < (X.length : Int) ∧ q < 0) ∨ (0 ≤ p ∧ p < (X.length : Int) ∧ 0 ≤ q ∧ (Y.length : Int) ≤ q) ∨ ∃ i k : Nat, p = (i : Int) ∧ q = (k : Int) ∧ i < X.length ∧ k < Y.length by
        by_cases a : p < 0
        · exact .inl a
        · by_cases b : (X.length : Int) ≤ p
          · exact .inr (.inl ⟨by omega, b⟩)
          · by_cases c : q < 0
            · exact .inr (.inr (.inl ⟨by omega, by omega, c⟩))
            · by_cases d : (Y.length : Int) ≤ q
              · exact .inr (.inr (.inr (.inl ⟨by omega, by omega, by omega, d⟩)))
              · exact .inr (.inr (.inr (.inr ⟨p.toNat, q.toNat, by omega, by omega, by omega, by omega⟩)))) with h | ⟨h, h'⟩ | ⟨h, h', h2⟩ | ⟨h, h', h2, h3⟩ | ⟨i, k, rfl, rfl, hi9, hk9⟩
      · clear hge hj
        go_wp2_with fail
        refine (LV.out _).mono ?_
        rintro e w20 ⟨rfl, hb20⟩
        have hb20 := hb.trans (hb20.mono (by have := hb.size; have := hz.out; omega))
        go_wp2
        go_ret
        exact ⟨by first | rfl | simp, hb0.out.trans (hb20.mono (by omega))⟩
      · clear hge hj
        go_wp2_with fail
        refine (LV.out _).mono ?_
        rintro e w20 ⟨rfl, hb20⟩
        have hb20 := hb.trans (hb20.mono (by have := hb.size; have := hz.out; omega))
        go_wp2
        go_ret
        exact ⟨by first | rfl | simp, hb0.out.trans (hb20.mono (by omega))⟩
      · clear hge hj
        go_wp2_with fail
        refine (LV.out _).mono ?_
        rintro e w20 ⟨rfl, hb20⟩
        have hb20 := hb.trans (hb20.mono (by have := hb.size; have := hz.out; omega))
        go_wp2
        go_ret
        exact ⟨by first | rfl | simp, hb0.out.trans (hb20.mono (by omega))⟩
      · clear hge hj
        go_wp2_with fail
        refine (LV.out _).mono ?_
        rintro e w20 ⟨rfl, hb20⟩
        have hb20 := hb.trans (hb20.mono (by have := hb.size; have := hz.out; omega))
        go_wp2
        go_ret
        exact ⟨by first | rfl | simp, hb0.out.trans (hb20.mono (by omega))⟩
      · have AP := fun u h => AP0.out i k hi9 hk9 u h
        have iz : i < Z.length := by have := NL.out; omega
        have rl := RL.out i iz
        obtain ⟨bx, ox, ex, hbx, c5⟩ := (HX.out _ hb).at hi9
        obtain ⟨b2, o2, ey, hby, c6⟩ := (HY.out _ hb).at hk9
        have i1 : (i : Int) < (X.length : Int) := by omega
        have i2 : (k : Int) < (Y.length : Int) := by omega
        have i3 : (i : Int) < (Z.length : Int) := by omega
        have i0 : 0 ≤ (i : Int) := by omega
        have i00 : 0 ≤ (k : Int) := by omega
        have G5 := Lib.hid (fun u h => (HX.out u h).at hi9)
        have G6 := Lib.hid (fun u h => (HY.out u h).at hk9)
        have G7 := Lib.hid (fun u h => GG.out u h i iz)
        have G8 := Lib.hid (fun u h => (GR2.out u h i iz).at (show k < (Z.getD i []).length by omega))
        rw [rl] at G7
        generalize X.getD i 0 = vx at *
        generalize Y.getD k 0 = vy at *
        generalize (Z.getD i []).getD k 0 = vz at *
        replace AP := Lib.hid AP
        have d1 : (vz == vz) = true := by simp
        subst ex ey
        clear SP AP0 RL NL HX HY rl GG GR2 GF GV FV FA FL iz hge hj
        go_wp2_with fail
        refine region_moves (fun u => u.cell? ⟨w.heap.size, 0, none⟩ = some (.slice (some ⟨bx, ox, none⟩) X.length e1) ∧ u.cell? ⟨w.heap.size, 1, none⟩ = some (.slice (some ⟨b2, o2, none⟩) Y.length e2) ∧ u.cell? ⟨w.heap.size, 2, none⟩ = some (.slice a3 Z.length e3) ∧ u.cell? ⟨w.heap.size + 1, 0, none⟩ = some (.int .i64 (i : Int)) ∧ u.cell? ⟨w.heap.size + 1, 1, none⟩ = some (.int .i64 (k : Int)) ∧ u.cell? ⟨w2.heap.size, 0, none⟩ = some (.slice (some ⟨g1, 0, none⟩) Y.length c1) ∧ u.cell? ⟨w2.heap.size, 1, none⟩ = some (.slice (some ⟨g2, 0, none⟩) X.length c2) ∧ u.cell? ⟨w2.heap.size, 2, none⟩ = some (.slice (some ⟨g3, 0, none⟩) Y.length c3) ∧ u.cell? ⟨bx, ox + i, none⟩ = some (.int .i64 vx) ∧ u.cell? ⟨b2, o2 + k, none⟩ = some (.int .i64 vy)) [] [(.take, 0), (.free, 1), (.take, 2), (.free, 3), (.take, 4), (.free, 5), (.take, 6), (.free, 7), (.take, 8), (.free, 9), (.take, 10), (.free, 11), (.take, 12), (.step, 13), (.free, 14), (.free, 15), (.free, 16), (.free, 17), (.free, 18)] _ (by kernel_rfl) (by kernel_rfl) (by kernel_rfl) (by kernel_rfl) (by decide) rfl (fun _ _ _ _ _ h => h) ?_
        simp only [List.filterMap_cons, List.filterMap_nil, List.getElem?_toArray, List.getElem?_cons_zero, List.getElem?_cons_succ, Option.map_some]
        iterate 1
          first
            | (refine mv_take ?_ (Or.inl ⟨by rfl, ?_⟩) (⟨k0, k1, k2, k3, k4, j0, j1, j2, c5, c6⟩) ?_
               rotate_left 1
               · intro u hu
                 (try dsimp only at hu)
                 go_simp
                 try with_reducible rfl
               simp only [Act.put, List.setIfInBounds_toArray, List.set_cons_zero, List.set_cons_succ])
            | (refine mv_take _ (Or.inr ⟨by rfl, rfl⟩) (⟨k0, k1, k2, k3, k4, j0, j1, j2, c5, c6⟩) ?_
               simp only [Act.put, List.setIfInBounds_toArray, List.set_cons_zero, List.set_cons_succ])
        iterate 1
          first
            | (refine mv_free ?_ (Or.inl ⟨by rfl, ?_⟩) (⟨k0, k1, k2, k3, k4, j0, j1, j2, c5, c6⟩) ?_
               rotate_left 1
               · intro u
                 go_simp
                 try simp only [d1]
                 try simp only [d2]
                 try simp only [d3]
                 try with_reducible rfl
               simp only [Act.put, List.setIfInBounds_toArray, List.set_cons_zero, List.set_cons_succ])
            | (refine mv_free _ (Or.inr ⟨by rfl, rfl⟩) (⟨k0, k1, k2, k3, k4, j0, j1, j2, c5, c6⟩) ?_
               simp only [Act.put, List.setIfInBounds_toArray, List.set_cons_zero, List.set_cons_succ])
        iterate 1
          first
            | (refine mv_take ?_ (Or.inl ⟨by rfl, ?_⟩) (⟨k0, k1, k2, k3, k4, j0, j1, j2, c5, c6⟩) ?_
               rotate_left 1
               · intro u hu
                 (try dsimp only at hu)
                 go_simp
                 try with_reducible rfl
               simp only [Act.put, List.setIfInBounds_toArray, List.set_cons_zero, List.set_cons_succ])
            | (refine mv_take _ (Or.inr ⟨by rfl, rfl⟩) (⟨k0, k1, k2, k3, k4, j0, j1, j2, c5, c6⟩) ?_
               simp only [Act.put, List.setIfInBounds_toArray, List.set_cons_zero, List.set_cons_succ])
        iterate 1
          first
            | (refine mv_free ?_ (Or.inl ⟨by rfl, ?_⟩) (⟨k0, k1, k2, k3, k4, j0, j1, j2, c5, c6⟩) ?_
               rotate_left 1
               · intro u
                 go_simp
                 try simp only [d1]
                 try simp only [d2]
                 try simp only [d3]
                 try with_reducible rfl
               simp only [Act.put, List.setIfInBounds_toArray, List.set_cons_zero, List.set_cons_succ])
            | (refine mv_free _ (Or.inr ⟨by rfl, rfl⟩) (⟨k0, k1, k2, k3, k4, j0, j1, j2, c5, c6⟩) ?_
               simp only [Act.put, List.setIfInBounds_toArray, List.set_cons_zero, List.set_cons_succ])
        iterate 1
          first
            | (refine mv_take ?_ (Or.inl ⟨by rfl, ?_⟩) (⟨k0, k1, k2, k3, k4, j0, j1, j2, c5, c6⟩) ?_
               rotate_left 1
               · intro u hu
                 (try dsimp only at hu)
                 go_simp
                 try with_reducible rfl
               simp only [Act.put, List.setIfInBounds_toArray, List.set_cons_zero, List.set_cons_succ])
            | (refine mv_take _ (Or.inr ⟨by rfl, rfl⟩) (⟨k0, k1, k2, k3, k4, j0, j1, j2, c5, c6⟩) ?_
               simp only [Act.put, List.setIfInBounds_toArray, List.set_cons_zero, List.set_cons_succ])
        iterate 1
          first
            | (refine mv_free ?_ (Or.inl ⟨by rfl, ?_⟩) (⟨k0, k1, k2, k3, k4, j0, j1, j2, c5, c6⟩) ?_
               rotate_left 1
               · intro u
                 go_simp
                 try simp only [d1]
                 try simp only [d2]
                 try simp only [d3]
                 try with_reducible rfl
               simp only [Act.put, List.setIfInBounds_toArray, List.set_cons_zero, List.set_cons_succ])
            | (refine mv_free _ (Or.inr ⟨by rfl, rfl⟩) (⟨k0, k1, k2, k3, k4, j0, j1, j2, c5, c6⟩) ?_
               simp only [Act.put, List.setIfInBounds_toArray, List.set_cons_zero, List.set_cons_succ])
        iterate 1
          first
            | (refine mv_take ?_ (Or.inl ⟨by rfl, ?_⟩) (⟨k0, k1, k2, k3, k4, j0, j1, j2, c5, c6⟩) ?_
               rotate_left 1
               · intro u hu
                 (try dsimp only at hu)
                 go_simp
                 try with_reducible rfl
               simp only [Act.put, List.setIfInBounds_toArray, List.set_cons_zero, List.set_cons_succ])
            | (refine mv_take _ (Or.inr ⟨by rfl, rfl⟩) (⟨k0, k1, k2, k3, k4, j0, j1, j2, c5, c6⟩) ?_
               simp only [Act.put, List.setIfInBounds_toArray, List.set_cons_zero, List.set_cons_succ])
        iterate 1
          first
            | (refine mv_free ?_ (Or.inl ⟨by rfl, ?_⟩) (⟨k0, k1, k2, k3, k4, j0, j1, j2, c5, c6⟩) ?_
               rotate_left 1
               · intro u
                 go_simp
                 try simp only [d1]
                 try simp only [d2]
                 try simp only [d3]
                 try with_reducible rfl
               simp only [Act.put, List.setIfInBounds_toArray, List.set_cons_zero, List.set_cons_succ])
            | (refine mv_free _ (Or.inr ⟨by rfl, rfl⟩) (⟨k0, k1, k2, k3, k4, j0, j1, j2, c5, c6⟩) ?_
               simp only [Act.put, List.setIfInBounds_toArray, List.set_cons_zero, List.set_cons_succ])
        iterate 1
          first
            | (refine mv_take ?_ (Or.inl ⟨by rfl, ?_⟩) (⟨k0, k1, k2, k3, k4, j0, j1, j2, c5, c6⟩) ?_
               rotate_left 1
               · intro u hu
                 (try dsimp only at hu)
                 go_simp
                 try with_reducible rfl
               simp only [Act.put, List.setIfInBounds_toArray, List.set_cons_zero, List.set_cons_succ])
            | (refine mv_take _ (Or.inr ⟨by rfl, rfl⟩) (⟨k0, k1, k2, k3, k4, j0, j1, j2, c5, c6⟩) ?_
               simp only [Act.put, List.setIfInBounds_toArray, List.set_cons_zero, List.set_cons_succ])
        iterate 1
          first
            | (refine mv_free ?_ (Or.inl ⟨by rfl, ?_⟩) (⟨k0, k1, k2, k3, k4, j0, j1, j2, c5, c6⟩) ?_
               rotate_left 1
               · intro u
                 go_simp
                 try simp only [d1]
                 try simp only [d2]
                 try simp only [d3]
                 try with_reducible rfl
               simp only [Act.put, List.setIfInBounds_toArray, List.set_cons_zero, List.set_cons_succ])
            | (refine mv_free _ (Or.inr ⟨by rfl, rfl⟩) (⟨k0, k1, k2, k3, k4, j0, j1, j2, c5, c6⟩) ?_
               simp only [Act.put, List.setIfInBounds_toArray, List.set_cons_zero, List.set_cons_succ])
        iterate 1
          first
            | (refine mv_take ?_ (Or.inl ⟨by rfl, ?_⟩) (⟨k0, k1, k2, k3, k4, j0, j1, j2, c5, c6⟩) ?_
               rotate_left 1
               · intro u hu
                 (try dsimp only at hu)
                 go_simp
                 try with_reducible rfl
               simp only [Act.put, List.setIfInBounds_toArray, List.set_cons_zero, List.set_cons_succ])
            | (refine mv_take _ (Or.inr ⟨by rfl, rfl⟩) (⟨k0, k1, k2, k3, k4, j0, j1, j2, c5, c6⟩) ?_
               simp only [Act.put, List.setIfInBounds_toArray, List.set_cons_zero, List.set_cons_succ])
        iterate 1
          first
            | (refine mv_free ?_ (Or.inl ⟨by rfl, ?_⟩) (⟨k0, k1, k2, k3, k4, j0, j1, j2, c5, c6⟩) ?_
               rotate_left 1
               · intro u
                 go_simp
                 try simp only [d1]
                 try simp only [d2]
                 try simp only [d3]
                 try with_reducible rfl
               simp only [Act.put, List.setIfInBounds_toArray, List.set_cons_zero, List.set_cons_succ])
            | (refine mv_free _ (Or.inr ⟨by rfl, rfl⟩) (⟨k0, k1, k2, k3, k4, j0, j1, j2, c5, c6⟩) ?_
               simp only [Act.put, List.setIfInBounds_toArray, List.set_cons_zero, List.set_cons_succ])
        iterate 1
          first
            | (refine mv_take ?_ (Or.inl ⟨by rfl, ?_⟩) (⟨k0, k1, k2, k3, k4, j0, j1, j2, c5, c6⟩) ?_
               rotate_left 1
               · intro u hu
                 (try dsimp only at hu)
                 go_simp
                 try with_reducible rfl
               simp only [Act.put, List.setIfInBounds_toArray, List.set_cons_zero, List.set_cons_succ])
            | (refine mv_take _ (Or.inr ⟨by rfl, rfl⟩) (⟨k0, k1, k2, k3, k4, j0, j1, j2, c5, c6⟩) ?_
               simp only [Act.put, List.setIfInBounds_toArray, List.set_cons_zero, List.set_cons_succ])
        refine mv_step (fun K hK => ?_)
        go_simp
        refine (AP.out _ hm.drew).mono ?_
        rintro e w6 ⟨rfl, hb6⟩
        have hm6 := hm.drew.trans (hb6.mono (by have := hm.size; have := hs1.out; show _ ≤ wr.heap.size; omega))
        have hb6 := hV1.out _ hm6
        clear hm hb k0 k1 k2 k3 k4 j0 j1 j2 c5 c6
        obtain ⟨k0, k1, k2, k3, k4⟩ := hcs.out _ hb6
        obtain ⟨j0, j1, j2⟩ := hcs1.out _ hm6
        obtain ⟨bx', ox', ex, -, c5⟩ := G5.out _ hb6
        obtain ⟨b2', o2', ey, -, c6⟩ := G6.out _ hb6
        injection ex with ex
        injection ex with e1' e2'
        injection ey with ey
        injection ey with e3' e4'
        subst e1' e2' e3' e4'
        go_wp2_with fail
        refine hK.out _ _ _ (fun u hu => hu) (⟨k0, k1, k2, k3, k4, j0, j1, j2, c5, c6⟩) ?_
        clear hK K
        iterate 5
          first
            | (refine mv_free ?_ (Or.inl ⟨by rfl, ?_⟩) (⟨k0, k1, k2, k3, k4, j0, j1, j2, c5, c6⟩) ?_
               rotate_left 1
               · intro u
                 go_simp
                 try simp only [d1]
                 try simp only [d2]
                 try simp only [d3]
                 try with_reducible rfl
               simp only [Act.put, List.setIfInBounds_toArray, List.set_cons_zero, List.set_cons_succ])
            | (refine mv_free _ (Or.inr ⟨by rfl, rfl⟩) (⟨k0, k1, k2, k3, k4, j0, j1, j2, c5, c6⟩) ?_
               simp only [Act.put, List.setIfInBounds_toArray, List.set_cons_zero, List.set_cons_succ])
        refine mv_done ?_
        obtain ⟨bz, oz, ez, -, c9⟩ := G7.out _ hb6
        obtain ⟨br, or_, er, -, c8⟩ := G8.out _ hb6
        subst ez
        rw [er] at c9
        replace er := Lib.hid er
        go_wp2_with fail
        refine region_moves (fun u => u.cell? ⟨w.heap.size, 2, none⟩ = some (.slice (some ⟨bz, oz, none⟩) Z.length e3) ∧ u.cell? ⟨w.heap.size + 1, 0, none⟩ = some (.int .i64 (i : Int)) ∧ u.cell? ⟨w.heap.size + 1, 1, none⟩ = some (.int .i64 (k : Int)) ∧ u.cell? ⟨bz, oz + i, none⟩ = some (.slice (some ⟨br, or_, none⟩) Y.length (GC i)) ∧ u.cell? ⟨br, or_ + k, none⟩ = some (.int .i64 vz)) [] [(.free, 0), (.free, 1), (.free, 2), (.free, 3), (.take, 4), (.free, 5), (.take, 6), (.free, 7), (.take, 8), (.free, 9), (.take, 10), (.free, 11), (.take, 12), (.free, 13), (.free, 14), (.free, 15), (.step, 16), (.free, 17), (.free, 18)] _ (by kernel_rfl) (by kernel_rfl) (by kernel_rfl) (by kernel_rfl) (by decide) rfl (fun _ _ _ _ _ h => h) ?_
        simp only [List.filterMap_cons, List.filterMap_nil, List.getElem?_toArray, List.getElem?_cons_zero, List.getElem?_cons_succ, Option.map_some]
        iterate 4
          first
            | (refine mv_free ?_ (Or.inl ⟨by rfl, ?_⟩) (⟨k2, k3, k4, c9, c8⟩) ?_
               rotate_left 1
               · intro u
                 go_simp
                 try simp only [d1]
                 try simp only [d2]
                 try simp only [d3]
                 try with_reducible rfl
               simp only [Act.put, List.setIfInBounds_toArray, List.set_cons_zero, List.set_cons_succ])
            | (refine mv_free _ (Or.inr ⟨by rfl, rfl⟩) (⟨k2, k3, k4, c9, c8⟩) ?_
               simp only [Act.put, List.setIfInBounds_toArray, List.set_cons_zero, List.set_cons_succ])
        iterate 1
          first
            | (refine mv_take ?_ (Or.inl ⟨by rfl, ?_⟩) (⟨k2, k3, k4, c9, c8⟩) ?_
               rotate_left 1
               · intro u hu
                 (try dsimp only at hu)
                 go_simp
                 try with_reducible rfl
               simp only [Act.put, List.setIfInBounds_toArray, List.set_cons_zero, List.set_cons_succ])
            | (refine mv_take _ (Or.inr ⟨by rfl, rfl⟩) (⟨k2, k3, k4, c9, c8⟩) ?_
               simp only [Act.put, List.setIfInBounds_toArray, List.set_cons_zero, List.set_cons_succ])
        iterate 1
          first
            | (refine mv_free ?_ (Or.inl ⟨by rfl, ?_⟩) (⟨k2, k3, k4, c9, c8⟩) ?_
               rotate_left 1
               · intro u
                 go_simp
                 try simp only [d1]
                 try simp only [d2]
                 try simp only [d3]
                 try with_reducible rfl
               simp only [Act.put, List.setIfInBounds_toArray, List.set_cons_zero, List.set_cons_succ])
            | (refine mv_free _ (Or.inr ⟨by rfl, rfl⟩) (⟨k2, k3, k4, c9, c8⟩) ?_
               simp only [Act.put, List.setIfInBounds_toArray, List.set_cons_zero, List.set_cons_succ])
        iterate 1
          first
            | (refine mv_take ?_ (Or.inl ⟨by rfl, ?_⟩) (⟨k2, k3, k4, c9, c8⟩) ?_
               rotate_left 1
               · intro u hu
                 (try dsimp only at hu)
                 go_simp
                 try with_reducible rfl
               simp only [Act.put, List.setIfInBounds_toArray, List.set_cons_zero, List.set_cons_succ])
            | (refine mv_take _ (Or.inr ⟨by rfl, rfl⟩) (⟨k2, k3, k4, c9, c8⟩) ?_
               simp only [Act.put, List.setIfInBounds_toArray, List.set_cons_zero, List.set_cons_succ])
        iterate 1
          first
            | (refine mv_free ?_ (Or.inl ⟨by rfl, ?_⟩) (⟨k2, k3, k4, c9, c8⟩) ?_
               rotate_left 1
               · intro u
                 go_simp
                 try simp only [d1]
                 try simp only [d2]
                 try simp only [d3]
                 try with_reducible rfl
               simp only [Act.put, List.setIfInBounds_toArray, List.set_cons_zero, List.set_cons_succ])
            | (refine mv_free _ (Or.inr ⟨by rfl, rfl⟩) (⟨k2, k3, k4, c9, c8⟩) ?_
               simp only [Act.put, List.setIfInBounds_toArray, List.set_cons_zero, List.set_cons_succ])
        iterate 1
          first
            | (refine mv_take ?_ (Or.inl ⟨by rfl, ?_⟩) (⟨k2, k3, k4, c9, c8⟩) ?_
               rotate_left 1
               · intro u hu
                 (try dsimp only at hu)
                 go_simp
                 try with_reducible rfl
               simp only [Act.put, List.setIfInBounds_toArray, List.set_cons_zero, List.set_cons_succ])
            | (refine mv_take _ (Or.inr ⟨by rfl, rfl⟩) (⟨k2, k3, k4, c9, c8⟩) ?_
               simp only [Act.put, List.setIfInBounds_toArray, List.set_cons_zero, List.set_cons_succ])
        iterate 1
          first
            | (refine mv_free ?_ (Or.inl ⟨by rfl, ?_⟩) (⟨k2, k3, k4, c9, c8⟩) ?_
               rotate_left 1
               · intro u
                 go_simp
                 try simp only [d1]
                 try simp only [d2]
                 try simp only [d3]
                 try with_reducible rfl
               simp only [Act.put, List.setIfInBounds_toArray, List.set_cons_zero, List.set_cons_succ])
            | (refine mv_free _ (Or.inr ⟨by rfl, rfl⟩) (⟨k2, k3, k4, c9, c8⟩) ?_
               simp only [Act.put, List.setIfInBounds_toArray, List.set_cons_zero, List.set_cons_succ])
        iterate 1
          first
            | (refine mv_take ?_ (Or.inl ⟨by rfl, ?_⟩) (⟨k2, k3, k4, c9, c8⟩) ?_
               rotate_left 1
               · intro u hu
                 (try dsimp only at hu)
                 go_simp
                 try with_reducible rfl
               simp only [Act.put, List.setIfInBounds_toArray, List.set_cons_zero, List.set_cons_succ])
            | (refine mv_take _ (Or.inr ⟨by rfl, rfl⟩) (⟨k2, k3, k4, c9, c8⟩) ?_
               simp only [Act.put, List.setIfInBounds_toArray, List.set_cons_zero, List.set_cons_succ])
        iterate 1
          first
            | (refine mv_free ?_ (Or.inl ⟨by rfl, ?_⟩) (⟨k2, k3, k4, c9, c8⟩) ?_
               rotate_left 1
               · intro u
                 go_simp
                 try simp only [d1]
                 try simp only [d2]
                 try simp only [d3]
                 try with_reducible rfl
               simp only [Act.put, List.setIfInBounds_toArray, List.set_cons_zero, List.set_cons_succ])
            | (refine mv_free _ (Or.inr ⟨by rfl, rfl⟩) (⟨k2, k3, k4, c9, c8⟩) ?_
               simp only [Act.put, List.setIfInBounds_toArray, List.set_cons_zero, List.set_cons_succ])
        iterate 1
          first
            | (refine mv_take ?_ (Or.inl ⟨by rfl, ?_⟩) (⟨k2, k3, k4, c9, c8⟩) ?_
               rotate_left 1
               · intro u hu
                 (try dsimp only at hu)
                 go_simp
                 try with_reducible rfl
               simp only [Act.put, List.setIfInBounds_toArray, List.set_cons_zero, List.set_cons_succ])
            | (refine mv_take _ (Or.inr ⟨by rfl, rfl⟩) (⟨k2, k3, k4, c9, c8⟩) ?_
               simp only [Act.put, List.setIfInBounds_toArray, List.set_cons_zero, List.set_cons_succ])
        iterate 3
          first
            | (refine mv_free ?_ (Or.inl ⟨by rfl, ?_⟩) (⟨k2, k3, k4, c9, c8⟩) ?_
               rotate_left 1
               · intro u
                 go_simp
                 try simp only [d1]
                 try simp only [d2]
                 try simp only [d3]
                 try with_reducible rfl
               simp only [Act.put, List.setIfInBounds_toArray, List.set_cons_zero, List.set_cons_succ])
            | (refine mv_free _ (Or.inr ⟨by rfl, rfl⟩) (⟨k2, k3, k4, c9, c8⟩) ?_
               simp only [Act.put, List.setIfInBounds_toArray, List.set_cons_zero, List.set_cons_succ])
        refine mv_step (fun K hK => ?_)
        go_simp
        refine (LV.out _).mono ?_
        rintro e w7 ⟨rfl, hb7⟩
        have hb7 := hb6.drew.trans (hb7.mono (by have := hb6.size; have := hz.out; show _ ≤ w6.heap.size; omega))
        clear hb6 hm6 j0 j1 j2 k0 k1 k2 k3 k4 c9 c8 c5 c6
        obtain ⟨k0, k1, k2, k3, k4⟩ := hcs.out _ hb7
        obtain ⟨bz2, oz2, ez, -, c9⟩ := G7.out _ hb7
        obtain ⟨br', or', er2, -, c8⟩ := G8.out _ hb7
        injection ez with ez
        injection ez with e1' e2'
        subst e1' e2'
        rw [er2] at c9
        have e5 := er.out.symm.trans er2
        injection e5 with e5
        injection e5 with e5 e6
        subst e5 e6
        clear er2
        go_wp2_with fail
        refine hK.out _ _ _ (fun u hu => hu) (⟨k2, k3, k4, c9, c8⟩) ?_
        clear hK K
        iterate 2
          first
            | (refine mv_free ?_ (Or.inl ⟨by rfl, ?_⟩) (⟨k2, k3, k4, c9, c8⟩) ?_
               rotate_left 1
               · intro u
                 go_simp
                 try simp only [d1]
                 try simp only [d2]
                 try simp only [d3]
                 try with_reducible rfl
               simp only [Act.put, List.setIfInBounds_toArray, List.set_cons_zero, List.set_cons_succ])
            | (refine mv_free _ (Or.inr ⟨by rfl, rfl⟩) (⟨k2, k3, k4, c9, c8⟩) ?_
               simp only [Act.put, List.setIfInBounds_toArray, List.set_cons_zero, List.set_cons_succ])
        refine mv_done ?_
        go_wp2
        go_ret
        exact ⟨by first | rfl | simp, hb0.out.trans (hb7.mono (by omega))⟩
end Go.Proofs.Ytnfbfggkbpobiaa
