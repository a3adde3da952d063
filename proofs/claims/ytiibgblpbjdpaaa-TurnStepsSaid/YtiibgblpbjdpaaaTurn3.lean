/- The steps are made; walked. -/
import Derived.Test.YtiibgblpbjdpaaaTurn2
import Derived.Deep.Cut
namespace Go.Proofs.Ytiibgblpbjdpaaa
open Go.ChangeShapes Go.WideShapes Go.ChangeAt Go.RowKit
set_option linter.unusedVariables false
set_option linter.unusedSimpArgs false
theorem rof_at (n R : Int) (h0 : 0 ≤ n) (h1 : n ≤ 9223372036854775807) (e : rt n = R) (w : World) : Calls Try.prog 66 #[.int .i64 n] w fun e w' => e = .returned (.int .i64 R) ∧ w = w' := by
  have := rof_rt n w (by omega) h1
  rw [if_neg (by omega), e] at this
  exact this
theorem rof_top (w : World) : Calls Try.prog 66 #[.int .i64 576460752303423488] w fun e w' => e = .returned (.int .i64 (tC 13)) ∧ w = w' := rof_at _ _ (by decide) (by decide) rt_top w
theorem rof_next (k : Nat) (n : Int) (hk : k < 13) (e : n = (1152921504606846976 + 1073741824 * tC (k + 1)) / 2) (w : World) : Calls Try.prog 66 #[.int .i64 n] w fun e w' => e = .returned (.int .i64 (tC k)) ∧ w = w' := by
  have b := tcs_bd (k + 1) (by omega)
  exact rof_at _ _ (by omega) (by omega) (by rw [e]; exact rt_next k hk) w
/-- The steps made so far, from the one above down. -/
def tgD (k : Nat) (g : Nat → Int) (i : Nat) : Int := if (i < 14 ∧ k ≤ i) ∨ 14 + k ≤ i then tG i else g i
theorem tG_c {k : Nat} (h : k < 14) : tG k = tC k := by unfold tG; exact if_pos h
theorem tG_s {k : Nat} : tG (14 + k) = tS k := by unfold tG; rw [if_neg (by omega), show 14 + k - 14 = k by omega]
theorem tgD_c {k j : Nat} (g : Nat → Int) (h : k ≤ j) (hj : j < 14) : tgD k g j = tC j := by unfold tgD; rw [if_pos (.inl ⟨hj, h⟩), tG_c hj]
theorem tgD_s {k j : Nat} (g : Nat → Int) (h : k ≤ j) : tgD k g (14 + j) = tS j := by unfold tgD; rw [if_pos (.inr (by omega)), tG_s]
theorem tgD_step (j : Nat) (g : Nat → Int) (hj : j < 14) : tgD j g = fun i => if i = 14 + j then tS j else if i = j then tC j else tgD (j + 1) g i := by
  funext i
  by_cases e1 : i = 14 + j
  · subst e1; rw [if_pos rfl, tgD_s g (Nat.le_refl _)]
  · rw [if_neg e1]
    by_cases e2 : i = j
    · subst e2; rw [if_pos rfl, tgD_c g (Nat.le_refl _) hj]
    · rw [if_neg e2]
      unfold tgD
      by_cases c : (i < 14 ∧ j ≤ i) ∨ 14 + j ≤ i
      · rw [if_pos c, if_pos (by omega)]
      · rw [if_neg c, if_neg (by omega)]
theorem tgD_start (g : Nat → Int) : tgD 13 g = fun i => if i = 14 + 13 then tS 13 else if i = 13 then tC 13 else tgD 14 g i := tgD_step 13 g (by omega)
theorem tgD_14 (g : Nat → Int) (i : Nat) (h : i < 28) : g i = tgD 14 g i := by unfold tgD; rw [if_neg (by omega)]
theorem tgD_0 (g : Nat → Int) (i : Nat) (h : i < 28) : tgD 0 g i = tG i := by unfold tgD; rw [if_pos (by omega)]
set_option maxRecDepth 100000 in
set_option maxHeartbeats 8000000 in
theorem tprep1 (b : Nat) (pl : Addr) (g : Nat → Int) (X : List Value) (w : World) (hpb : ¬ pl.block = b) (hp : w.cell? pl = some (.pointer (some ⟨b, 0, none⟩))) (hpl : pl.block < w.heap.size) (h : TurO b 0 1 g X w) : Calls Try.prog 65 #[.pointer (some pl)] w fun e w' => e = .returned (.tuple #[]) ∧ TurO b 0 1 tG X w' ∧ Beside b w w' := by
  have R0 := Lib.hid (fun u => rof_top u)
  have RN := Lib.hid (fun (k : Nat) (n : Int) u (hk : k < 13) (e : n = (1152921504606846976 + 1073741824 * tC (k + 1)) / 2) => rof_next k n hk e u)
  have PL := Lib.hid (fun u (k : Beside b w u) => (World.cell?_of_block (a := pl) (k.block pl.block hpl hpb)).trans hp)
  have h0 := h.fn (g' := tgD 14 g) (fun i hi => tgD_14 g i hi)
  have cy := h0.st 13 (by omega)
  have fy := h0.fz (3 + 13) (by omega)
  have cz := h0.st (14 + 13) (by omega)
  have fz := h0.fz (3 + (14 + 13)) (by omega)
  have z0 := tcs_bd 13 (by omega)
  have zt := tcs_top.2
  have eS := Lib.hid (tgD_start g)
  generalize tgD 14 g 13 = y0 at *
  generalize tgD 14 g (14 + 13) = y1 at *
  obtain ⟨x, ex⟩ : ∃ x, x = tC 13 := ⟨_, rfl⟩
  obtain ⟨z, ez⟩ : ∃ z, z = tS 13 := ⟨_, rfl⟩
  rw [← ex] at z0 zt
  rw [← ex] at R0
  rw [← ez] at z0 zt
  rw [← ex, ← ez] at eS
  obtain ⟨D, eD⟩ : ∃ D, D = 2 * x := ⟨_, rfl⟩
  rw [← eD] at zt
  have q1 : IntKind.i64.wrap (2 * x) = D := by rw [← eD, IntKind.wrap_i64]; omega
  have q2 : (1152921504606846976 : Int).tdiv D = z := by rw [Int.tdiv_eq_ediv_of_nonneg (by omega), zt]
  have q3 : IntKind.i64.wrap z = z := by rw [IntKind.wrap_i64]; omega
  have q4 : ¬ D = 0 := by omega
  have xb : 500000000 ≤ x := by omega
  clear z0 zt eD
  replace ex := Lib.hid ex
  replace ez := Lib.hid ez
  replace h0 := Lib.hid h0
  clear h hpl hpb
  go_enter Try.func65, Try.ntmps65
  go_wp2_with fail
  refine region_moves (fun u => u.cell? pl = some (.pointer (some ⟨b, 0, none⟩)) ∧ u.cell? ⟨b, 3 + 13, none⟩ = some (.int .i64 y0) ∧ u.frozen? ⟨b, 3 + 13, none⟩ = false) [(5, [(4, 5), (1, 5), (0, 5), (3, 4), (2, 3)])] [(.take, 0), (.free, 2), (.free, 3), (.step, 1), (.free, 4), (.late, 5)] _ (by kernel_rfl) (by kernel_rfl) (by kernel_rfl) (by kernel_rfl) (by decide) rfl (fun _ _ _ _ _ h => h) ?_
  simp only [List.filterMap_cons, List.filterMap_nil, List.getElem?_toArray, List.getElem?_cons_zero, List.getElem?_cons_succ, Option.map_some]
  iterate 1
    first
      | (refine mv_take ?_ (Or.inl ⟨by rfl, ?_⟩) (⟨hp, cy, fy⟩) ?_
         rotate_left 1
         · intro u hu
           (try dsimp only at hu)
           go_simp
           try with_reducible rfl
         simp only [Act.put, List.setIfInBounds_toArray, List.set_cons_zero, List.set_cons_succ])
      | (refine mv_take _ (Or.inr ⟨by rfl, rfl⟩) (⟨hp, cy, fy⟩) ?_
         simp only [Act.put, List.setIfInBounds_toArray, List.set_cons_zero, List.set_cons_succ])
  iterate 2
    first
      | (refine mv_free ?_ (Or.inl ⟨by rfl, ?_⟩) (⟨hp, cy, fy⟩) ?_
         rotate_left 1
         · intro u
           go_simp
           try simp only [d1]
           try simp only [d2]
           try simp only [d3]
           try with_reducible rfl
         simp only [Act.put, List.setIfInBounds_toArray, List.set_cons_zero, List.set_cons_succ])
      | (refine mv_free _ (Or.inr ⟨by rfl, rfl⟩) (⟨hp, cy, fy⟩) ?_
         simp only [Act.put, List.setIfInBounds_toArray, List.set_cons_zero, List.set_cons_succ])
  refine mv_step (fun K hK => ?_)
  go_simp
  refine (R0.out _).mono ?_
  rintro e w3 ⟨rfl, rfl⟩
  go_wp2_with fail
  refine hK.out _ _ _ (fun u hu => hu) (⟨hp, cy, fy⟩) ?_
  clear hK K
  iterate 1
    first
      | (refine mv_free ?_ (Or.inl ⟨by rfl, ?_⟩) (⟨hp, cy, fy⟩) ?_
         rotate_left 1
         · intro u
           go_simp
           try simp only [d1]
           try simp only [d2]
           try simp only [d3]
           try with_reducible rfl
         simp only [Act.put, List.setIfInBounds_toArray, List.set_cons_zero, List.set_cons_succ])
      | (refine mv_free _ (Or.inr ⟨by rfl, rfl⟩) (⟨hp, cy, fy⟩) ?_
         simp only [Act.put, List.setIfInBounds_toArray, List.set_cons_zero, List.set_cons_succ])
  refine mv_late (fun K hK => ?_)
  go_simp
  refine hK.out (fun _ => True) _ _ ?_
  clear hK K
  refine mv_done ?_
  have h1 : TurO b 0 1 _ X ((w.setCell ⟨b, 16, none⟩ (.int .i64 x)).drew) := (h0.out.setS 13 (by omega) x).drew
  have bs1 : Beside b w ((w.setCell ⟨b, 16, none⟩ (.int .i64 x)).drew) := ((Beside.of_only (Only.refl b w)).setCell (p := ⟨b, 16, none⟩) _).trans (Beside.of_below (Below.refl _ _).drew)
  generalize (w.setCell ⟨b, 16, none⟩ (.int .i64 x)).drew = w1 at *
  have cp := PL.out _ bs1
  have cx := h1.st 13 (by omega)
  rw [if_pos rfl] at cx
  have cz := h1.st (14 + 13) (by omega)
  rw [if_neg (by omega)] at cz
  have fz := h1.fz (3 + (14 + 13)) (by omega)
  generalize tgD 14 g (14 + 13) = y2 at *
  replace h1 := Lib.hid h1
  replace bs1 := Lib.hid bs1
  clear h0 hp cy fy
  go_wp2_with fail
  refine region_moves (fun u => u.cell? pl = some (.pointer (some ⟨b, 0, none⟩)) ∧ u.cell? ⟨b, 3 + 13, none⟩ = some (.int .i64 x) ∧ u.cell? ⟨b, 3 + (14 + 13), none⟩ = some (.int .i64 y2) ∧ u.frozen? ⟨b, 3 + (14 + 13), none⟩ = false) [(11, [(10, 11), (7, 11), (0, 11), (1, 11), (2, 11), (3, 11), (4, 11), (5, 11), (6, 11), (9, 10), (8, 9)])] [(.take, 0), (.take, 1), (.free, 2), (.free, 3), (.free, 4), (.take, 5), (.free, 6), (.free, 7), (.free, 8), (.free, 9), (.free, 10), (.late, 11)] _ (by kernel_rfl) (by kernel_rfl) (by kernel_rfl) (by kernel_rfl) (by decide) rfl (fun _ _ _ _ _ h => h) ?_
  simp only [List.filterMap_cons, List.filterMap_nil, List.getElem?_toArray, List.getElem?_cons_zero, List.getElem?_cons_succ, Option.map_some]
  iterate 2
    first
      | (refine mv_take ?_ (Or.inl ⟨by rfl, ?_⟩) (⟨cp, cx, cz, fz⟩) ?_
         rotate_left 1
         · intro u hu
           (try dsimp only at hu)
           go_simp
           try with_reducible rfl
         simp only [Act.put, List.setIfInBounds_toArray, List.set_cons_zero, List.set_cons_succ])
      | (refine mv_take _ (Or.inr ⟨by rfl, rfl⟩) (⟨cp, cx, cz, fz⟩) ?_
         simp only [Act.put, List.setIfInBounds_toArray, List.set_cons_zero, List.set_cons_succ])
  iterate 3
    first
      | (refine mv_free ?_ (Or.inl ⟨by rfl, ?_⟩) (⟨cp, cx, cz, fz⟩) ?_
         rotate_left 1
         · intro u
           go_simp
           try simp only [d1]
           try simp only [d2]
           try simp only [d3]
           try with_reducible rfl
         simp only [Act.put, List.setIfInBounds_toArray, List.set_cons_zero, List.set_cons_succ])
      | (refine mv_free _ (Or.inr ⟨by rfl, rfl⟩) (⟨cp, cx, cz, fz⟩) ?_
         simp only [Act.put, List.setIfInBounds_toArray, List.set_cons_zero, List.set_cons_succ])
  iterate 1
    first
      | (refine mv_take ?_ (Or.inl ⟨by rfl, ?_⟩) (⟨cp, cx, cz, fz⟩) ?_
         rotate_left 1
         · intro u hu
           (try dsimp only at hu)
           go_simp
           try with_reducible rfl
         simp only [Act.put, List.setIfInBounds_toArray, List.set_cons_zero, List.set_cons_succ])
      | (refine mv_take _ (Or.inr ⟨by rfl, rfl⟩) (⟨cp, cx, cz, fz⟩) ?_
         simp only [Act.put, List.setIfInBounds_toArray, List.set_cons_zero, List.set_cons_succ])
  iterate 5
    first
      | (refine mv_free ?_ (Or.inl ⟨by rfl, ?_⟩) (⟨cp, cx, cz, fz⟩) ?_
         rotate_left 1
         · intro u
           go_simp
           try simp only [d1]
           try simp only [d2]
           try simp only [d3]
           try with_reducible rfl
         simp only [Act.put, List.setIfInBounds_toArray, List.set_cons_zero, List.set_cons_succ])
      | (refine mv_free _ (Or.inr ⟨by rfl, rfl⟩) (⟨cp, cx, cz, fz⟩) ?_
         simp only [Act.put, List.setIfInBounds_toArray, List.set_cons_zero, List.set_cons_succ])
  refine mv_late (fun K hK => ?_)
  go_simp
  refine hK.out (fun _ => True) _ _ ?_
  clear hK K
  refine mv_done ?_
  have h2 := (h1.out.setS (14 + 13) (by omega) z).drew
  rw [← eS.out] at h2
  replace h2 : TurO b 0 1 _ X ((w1.setCell ⟨b, 30, none⟩ (.int .i64 z)).drew) := h2
  have bs2 : Beside b w ((w1.setCell ⟨b, 30, none⟩ (.int .i64 z)).drew) := bs1.out.trans (((Beside.of_only (Only.refl b w1)).setCell (p := ⟨b, 30, none⟩) _).trans (Beside.of_below (Below.refl _ _).drew))
  generalize (w1.setCell ⟨b, 30, none⟩ (.int .i64 z)).drew = w2 at *
  clear h1 bs1 cp cx cz fz q1 q2 q3 q4 xb ex ez eS
  replace h2 := Lib.hid h2
  replace bs2 := Lib.hid bs2
  go_wp2_with fail
  go_loopw [1] (fun i v => ∃ k : Nat, k ≤ 13 ∧ i = .int .i64 ((k : Int) - 1) ∧ Hid (TurO b 0 1 (tgD k g) X v ∧ Beside b w v)) (fun i _ => (intOf i + 1).toNat)
  case atStart => exact ⟨13, by omega, rfl, Lib.hid ⟨h2.out, bs2.out⟩⟩
  case round =>
    clear h2 bs2
    obtain ⟨k, hk, rfl, hS⟩ := hrel
    cases k with
    | zero =>
      obtain ⟨h6, bs6⟩ := hS.out
      have h6 := Lib.hid (h6.fn (g' := tG) (fun i hi => tgD_0 g i hi))
      replace bs6 := Lib.hid bs6
      clear hS
      go_wp2
      go_end0
      exact ⟨rfl, h6.out, bs6.out⟩
    | succ j =>
      have hj : j < 13 := by omega
      rw [show ((j + 1 : Nat) : Int) - 1 = (j : Int) by omega]
      have cx := hS.out.1.st (j + 1) (by omega)
      rw [tgD_c g (Nat.le_refl _) (by omega)] at cx
      have cs := hS.out.1.st (14 + (j + 1)) (by omega)
      rw [tgD_s g (Nat.le_refl _)] at cs
      have cy := hS.out.1.st j (by omega)
      have fy := hS.out.1.fz (3 + j) (by omega)
      have cp := PL.out _ hS.out.2
      have eS := Lib.hid (tgD_step j g (by omega))
      have CSF := Lib.hid (fun (c : Int) u (m : TurO b 0 1 (fun i => if i = j then c else tgD (j + 1) g i) X u) => show u.cell? ⟨b, 17 + (j + 1), none⟩ = some (.int .i64 (tS (j + 1))) ∧ u.cell? ⟨b, 17 + j, none⟩ = some (.int .i64 (tgD (j + 1) g (14 + j))) ∧ u.frozen? ⟨b, 17 + j, none⟩ = false ∧ u.cell? ⟨b, 3 + j, none⟩ = some (.int .i64 c) from by
        have h1 := m.st (14 + (j + 1)) (by omega)
        rw [if_neg (by omega), tgD_s g (Nat.le_refl _), show 3 + (14 + (j + 1)) = 17 + (j + 1) by omega] at h1
        have h2 := m.st (14 + j) (by omega)
        rw [if_neg (by omega), show 3 + (14 + j) = 17 + j by omega] at h2
        have h3 := m.st j (by omega)
        rw [if_pos rfl] at h3
        exact ⟨h1, h2, m.fz (17 + j) (by omega), h3⟩)
      have b1 := tcs_bd (j + 1) (by omega)
      have b0 := tcs_bd j (by omega)
      have tn := ts_next j hj
      have RNk := fun u => RN.out j _ u hj rfl
      generalize tC (j + 1) = x at *
      generalize tS (j + 1) = s at *
      generalize tC j = c at *
      generalize tS j = z at *
      generalize tgD (j + 1) g j = y at *
      generalize tgD (j + 1) g (14 + j) = y2 at *
      clear cs
      obtain ⟨P, eP⟩ : ∃ P, P = 1073741824 * x := ⟨_, rfl⟩
      obtain ⟨Q, eQ⟩ : ∃ Q, Q = 1073741824 * s := ⟨_, rfl⟩
      obtain ⟨D, eD⟩ : ∃ D, D = 2 * c := ⟨_, rfl⟩
      obtain ⟨R, eR⟩ : ∃ R, R = (1152921504606846976 + P) / 2 := ⟨_, rfl⟩
      rw [← eP, ← eR] at RNk
      rw [← eQ, ← eD] at tn
      have m1 : IntKind.i64.wrap (1073741824 * x) = P := by rw [← eP, IntKind.wrap_i64]; omega
      have m2 : IntKind.i64.wrap (1152921504606846976 + P) = 1152921504606846976 + P := by rw [IntKind.wrap_i64]; omega
      have m3 : (1152921504606846976 + P).tdiv 2 = R := by rw [Int.tdiv_eq_ediv_of_nonneg (by omega), eR]
      have m4 : IntKind.i64.wrap R = R := by rw [IntKind.wrap_i64]; omega
      have m5 : IntKind.i64.wrap (1073741824 * s) = Q := by rw [← eQ, IntKind.wrap_i64]; omega
      have m6 : IntKind.i64.wrap (2 * c) = D := by rw [← eD, IntKind.wrap_i64]; omega
      have m7 : Q.tdiv D = z := by rw [Int.tdiv_eq_ediv_of_nonneg (by omega), tn]
      have m8 : IntKind.i64.wrap z = z := by rw [IntKind.wrap_i64]; omega
      have m9 : ¬ D = 0 := by omega
      have i1 : ¬ (j : Int) < 0 := by omega
      have i0 : 0 ≤ (j : Int) := by omega
      have i2 : IntKind.i64.wrap ((j : Int) + 1) = (j : Int) + 1 := by rw [IntKind.wrap_i64]; omega
      have i3 : ((j : Int) + 1).toNat = j + 1 := by omega
      have i4 : 0 ≤ (j : Int) + 1 := by omega
      have i5 : (j : Int) + 1 < 14 := by omega
      have i6 : (j : Int) < 14 := by omega
      have i7 : IntKind.i64.wrap ((j : Int) - 1) = (j : Int) - 1 := by rw [IntKind.wrap_i64]; omega
      clear b1 b0 tn eP eQ eD eR
      replace RNk := Lib.hid RNk
      generalize wr = v0 at *
      go_wp2_with fail
      refine region_moves (fun u => u.cell? pl = some (.pointer (some ⟨b, 0, none⟩)) ∧ u.cell? ⟨b, 3 + (j + 1), none⟩ = some (.int .i64 x) ∧ u.cell? ⟨b, 3 + j, none⟩ = some (.int .i64 y) ∧ u.frozen? ⟨b, 3 + j, none⟩ = false) [(16, [(15, 16), (12, 16), (0, 16), (1, 16), (2, 16), (3, 16), (4, 16), (5, 16), (6, 16), (7, 16), (8, 16), (9, 16), (10, 16), (11, 16), (14, 15), (13, 14)])] [(.take, 0), (.free, 1), (.take, 2), (.free, 3), (.free, 4), (.free, 5), (.free, 6), (.free, 7), (.take, 8), (.free, 9), (.free, 10), (.free, 11), (.free, 13), (.free, 14), (.step, 12), (.free, 15), (.late, 16)] _ (by kernel_rfl) (by kernel_rfl) (by kernel_rfl) (by kernel_rfl) (by decide) rfl (fun _ _ _ _ _ h => h) ?_
      simp only [List.filterMap_cons, List.filterMap_nil, List.getElem?_toArray, List.getElem?_cons_zero, List.getElem?_cons_succ, Option.map_some]
      iterate 1
        first
          | (refine mv_take ?_ (Or.inl ⟨by rfl, ?_⟩) (⟨cp, cx, cy, fy⟩) ?_
             rotate_left 1
             · intro u hu
               (try dsimp only at hu)
               go_simp
               try with_reducible rfl
             simp only [Act.put, List.setIfInBounds_toArray, List.set_cons_zero, List.set_cons_succ])
          | (refine mv_take _ (Or.inr ⟨by rfl, rfl⟩) (⟨cp, cx, cy, fy⟩) ?_
             simp only [Act.put, List.setIfInBounds_toArray, List.set_cons_zero, List.set_cons_succ])
      iterate 1
        first
          | (refine mv_free ?_ (Or.inl ⟨by rfl, ?_⟩) (⟨cp, cx, cy, fy⟩) ?_
             rotate_left 1
             · intro u
               go_simp
               try simp only [d1]
               try simp only [d2]
               try simp only [d3]
               try with_reducible rfl
             simp only [Act.put, List.setIfInBounds_toArray, List.set_cons_zero, List.set_cons_succ])
          | (refine mv_free _ (Or.inr ⟨by rfl, rfl⟩) (⟨cp, cx, cy, fy⟩) ?_
             simp only [Act.put, List.setIfInBounds_toArray, List.set_cons_zero, List.set_cons_succ])
      iterate 1
        first
          | (refine mv_take ?_ (Or.inl ⟨by rfl, ?_⟩) (⟨cp, cx, cy, fy⟩) ?_
             rotate_left 1
             · intro u hu
               (try dsimp only at hu)
               go_simp
               try with_reducible rfl
             simp only [Act.put, List.setIfInBounds_toArray, List.set_cons_zero, List.set_cons_succ])
          | (refine mv_take _ (Or.inr ⟨by rfl, rfl⟩) (⟨cp, cx, cy, fy⟩) ?_
             simp only [Act.put, List.setIfInBounds_toArray, List.set_cons_zero, List.set_cons_succ])
      iterate 5
        first
          | (refine mv_free ?_ (Or.inl ⟨by rfl, ?_⟩) (⟨cp, cx, cy, fy⟩) ?_
             rotate_left 1
             · intro u
               go_simp
               try simp only [d1]
               try simp only [d2]
               try simp only [d3]
               try with_reducible rfl
             simp only [Act.put, List.setIfInBounds_toArray, List.set_cons_zero, List.set_cons_succ])
          | (refine mv_free _ (Or.inr ⟨by rfl, rfl⟩) (⟨cp, cx, cy, fy⟩) ?_
             simp only [Act.put, List.setIfInBounds_toArray, List.set_cons_zero, List.set_cons_succ])
      iterate 1
        first
          | (refine mv_take ?_ (Or.inl ⟨by rfl, ?_⟩) (⟨cp, cx, cy, fy⟩) ?_
             rotate_left 1
             · intro u hu
               (try dsimp only at hu)
               go_simp
               try with_reducible rfl
             simp only [Act.put, List.setIfInBounds_toArray, List.set_cons_zero, List.set_cons_succ])
          | (refine mv_take _ (Or.inr ⟨by rfl, rfl⟩) (⟨cp, cx, cy, fy⟩) ?_
             simp only [Act.put, List.setIfInBounds_toArray, List.set_cons_zero, List.set_cons_succ])
      iterate 5
        first
          | (refine mv_free ?_ (Or.inl ⟨by rfl, ?_⟩) (⟨cp, cx, cy, fy⟩) ?_
             rotate_left 1
             · intro u
               go_simp
               try simp only [d1]
               try simp only [d2]
               try simp only [d3]
               try with_reducible rfl
             simp only [Act.put, List.setIfInBounds_toArray, List.set_cons_zero, List.set_cons_succ])
          | (refine mv_free _ (Or.inr ⟨by rfl, rfl⟩) (⟨cp, cx, cy, fy⟩) ?_
             simp only [Act.put, List.setIfInBounds_toArray, List.set_cons_zero, List.set_cons_succ])
      refine mv_step (fun K hK => ?_)
      go_simp
      refine (RNk.out _).mono ?_
      rintro e w3 ⟨rfl, rfl⟩
      go_wp2_with fail
      refine hK.out _ _ _ (fun u hu => hu) (⟨cp, cx, cy, fy⟩) ?_
      clear hK K
      iterate 1
        first
          | (refine mv_free ?_ (Or.inl ⟨by rfl, ?_⟩) (⟨cp, cx, cy, fy⟩) ?_
             rotate_left 1
             · intro u
               go_simp
               try simp only [d1]
               try simp only [d2]
               try simp only [d3]
               try with_reducible rfl
             simp only [Act.put, List.setIfInBounds_toArray, List.set_cons_zero, List.set_cons_succ])
          | (refine mv_free _ (Or.inr ⟨by rfl, rfl⟩) (⟨cp, cx, cy, fy⟩) ?_
             simp only [Act.put, List.setIfInBounds_toArray, List.set_cons_zero, List.set_cons_succ])
      refine mv_late (fun K hK => ?_)
      go_simp
      refine hK.out (fun _ => True) _ _ ?_
      clear hK K
      refine mv_done ?_
      have h4 := (hS.out.1.setS j (by omega) c).drew
      have bs4 := hS.out.2.trans (((Beside.of_only (Only.refl b v0)).setCell (p := ⟨b, 3 + j, none⟩) (.int .i64 c)).trans (Beside.of_below (Below.refl _ _).drew))
      generalize (v0.setCell ⟨b, 3 + j, none⟩ (.int .i64 c)).drew = w4 at *
      obtain ⟨cs, cz, fz, cc⟩ := CSF.out c w4 h4
      have cp4 := PL.out _ bs4
      replace h4 := Lib.hid h4
      replace bs4 := Lib.hid bs4
      clear hS cx cy fy cp CSF
      go_wp2_with fail
      refine region_moves (fun u => u.cell? pl = some (.pointer (some ⟨b, 0, none⟩)) ∧ u.cell? ⟨b, 17 + (j + 1), none⟩ = some (.int .i64 s) ∧ u.cell? ⟨b, 3 + j, none⟩ = some (.int .i64 c) ∧ u.cell? ⟨b, 17 + j, none⟩ = some (.int .i64 y2) ∧ u.frozen? ⟨b, 17 + j, none⟩ = false) [(21, [(20, 21), (17, 21), (0, 21), (1, 21), (2, 21), (3, 21), (4, 21), (5, 21), (6, 21), (7, 21), (8, 21), (9, 21), (10, 21), (11, 21), (12, 21), (13, 21), (14, 21), (15, 21), (16, 21), (19, 20), (18, 19)])] [(.take, 0), (.free, 1), (.take, 2), (.free, 3), (.free, 4), (.free, 5), (.free, 6), (.free, 7), (.take, 8), (.free, 9), (.take, 10), (.free, 11), (.free, 12), (.free, 13), (.free, 14), (.take, 15), (.free, 16), (.free, 17), (.free, 18), (.free, 19), (.free, 20), (.late, 21)] _ (by kernel_rfl) (by kernel_rfl) (by kernel_rfl) (by kernel_rfl) (by decide) rfl (fun _ _ _ _ _ h => h) ?_
      simp only [List.filterMap_cons, List.filterMap_nil, List.getElem?_toArray, List.getElem?_cons_zero, List.getElem?_cons_succ, Option.map_some]
      iterate 1
        first
          | (refine mv_take ?_ (Or.inl ⟨by rfl, ?_⟩) (⟨cp4, cs, cc, cz, fz⟩) ?_
             rotate_left 1
             · intro u hu
               (try dsimp only at hu)
               go_simp
               try with_reducible rfl
             simp only [Act.put, List.setIfInBounds_toArray, List.set_cons_zero, List.set_cons_succ])
          | (refine mv_take _ (Or.inr ⟨by rfl, rfl⟩) (⟨cp4, cs, cc, cz, fz⟩) ?_
             simp only [Act.put, List.setIfInBounds_toArray, List.set_cons_zero, List.set_cons_succ])
      iterate 1
        first
          | (refine mv_free ?_ (Or.inl ⟨by rfl, ?_⟩) (⟨cp4, cs, cc, cz, fz⟩) ?_
             rotate_left 1
             · intro u
               go_simp
               try simp only [d1]
               try simp only [d2]
               try simp only [d3]
               try with_reducible rfl
             simp only [Act.put, List.setIfInBounds_toArray, List.set_cons_zero, List.set_cons_succ])
          | (refine mv_free _ (Or.inr ⟨by rfl, rfl⟩) (⟨cp4, cs, cc, cz, fz⟩) ?_
             simp only [Act.put, List.setIfInBounds_toArray, List.set_cons_zero, List.set_cons_succ])
      iterate 1
        first
          | (refine mv_take ?_ (Or.inl ⟨by rfl, ?_⟩) (⟨cp4, cs, cc, cz, fz⟩) ?_
             rotate_left 1
             · intro u hu
               (try dsimp only at hu)
               go_simp
               try with_reducible rfl
             simp only [Act.put, List.setIfInBounds_toArray, List.set_cons_zero, List.set_cons_succ])
          | (refine mv_take _ (Or.inr ⟨by rfl, rfl⟩) (⟨cp4, cs, cc, cz, fz⟩) ?_
             simp only [Act.put, List.setIfInBounds_toArray, List.set_cons_zero, List.set_cons_succ])
      iterate 5
        first
          | (refine mv_free ?_ (Or.inl ⟨by rfl, ?_⟩) (⟨cp4, cs, cc, cz, fz⟩) ?_
             rotate_left 1
             · intro u
               go_simp
               try simp only [d1]
               try simp only [d2]
               try simp only [d3]
               try with_reducible rfl
             simp only [Act.put, List.setIfInBounds_toArray, List.set_cons_zero, List.set_cons_succ])
          | (refine mv_free _ (Or.inr ⟨by rfl, rfl⟩) (⟨cp4, cs, cc, cz, fz⟩) ?_
             simp only [Act.put, List.setIfInBounds_toArray, List.set_cons_zero, List.set_cons_succ])
      iterate 1
        first
          | (refine mv_take ?_ (Or.inl ⟨by rfl, ?_⟩) (⟨cp4, cs, cc, cz, fz⟩) ?_
             rotate_left 1
             · intro u hu
               (try dsimp only at hu)
               go_simp
               try with_reducible rfl
             simp only [Act.put, List.setIfInBounds_toArray, List.set_cons_zero, List.set_cons_succ])
          | (refine mv_take _ (Or.inr ⟨by rfl, rfl⟩) (⟨cp4, cs, cc, cz, fz⟩) ?_
             simp only [Act.put, List.setIfInBounds_toArray, List.set_cons_zero, List.set_cons_succ])
      iterate 1
        first
          | (refine mv_free ?_ (Or.inl ⟨by rfl, ?_⟩) (⟨cp4, cs, cc, cz, fz⟩) ?_
             rotate_left 1
             · intro u
               go_simp
               try simp only [d1]
               try simp only [d2]
               try simp only [d3]
               try with_reducible rfl
             simp only [Act.put, List.setIfInBounds_toArray, List.set_cons_zero, List.set_cons_succ])
          | (refine mv_free _ (Or.inr ⟨by rfl, rfl⟩) (⟨cp4, cs, cc, cz, fz⟩) ?_
             simp only [Act.put, List.setIfInBounds_toArray, List.set_cons_zero, List.set_cons_succ])
      iterate 1
        first
          | (refine mv_take ?_ (Or.inl ⟨by rfl, ?_⟩) (⟨cp4, cs, cc, cz, fz⟩) ?_
             rotate_left 1
             · intro u hu
               (try dsimp only at hu)
               go_simp
               try with_reducible rfl
             simp only [Act.put, List.setIfInBounds_toArray, List.set_cons_zero, List.set_cons_succ])
          | (refine mv_take _ (Or.inr ⟨by rfl, rfl⟩) (⟨cp4, cs, cc, cz, fz⟩) ?_
             simp only [Act.put, List.setIfInBounds_toArray, List.set_cons_zero, List.set_cons_succ])
      iterate 4
        first
          | (refine mv_free ?_ (Or.inl ⟨by rfl, ?_⟩) (⟨cp4, cs, cc, cz, fz⟩) ?_
             rotate_left 1
             · intro u
               go_simp
               try simp only [d1]
               try simp only [d2]
               try simp only [d3]
               try with_reducible rfl
             simp only [Act.put, List.setIfInBounds_toArray, List.set_cons_zero, List.set_cons_succ])
          | (refine mv_free _ (Or.inr ⟨by rfl, rfl⟩) (⟨cp4, cs, cc, cz, fz⟩) ?_
             simp only [Act.put, List.setIfInBounds_toArray, List.set_cons_zero, List.set_cons_succ])
      iterate 1
        first
          | (refine mv_take ?_ (Or.inl ⟨by rfl, ?_⟩) (⟨cp4, cs, cc, cz, fz⟩) ?_
             rotate_left 1
             · intro u hu
               (try dsimp only at hu)
               go_simp
               try with_reducible rfl
             simp only [Act.put, List.setIfInBounds_toArray, List.set_cons_zero, List.set_cons_succ])
          | (refine mv_take _ (Or.inr ⟨by rfl, rfl⟩) (⟨cp4, cs, cc, cz, fz⟩) ?_
             simp only [Act.put, List.setIfInBounds_toArray, List.set_cons_zero, List.set_cons_succ])
      iterate 5
        first
          | (refine mv_free ?_ (Or.inl ⟨by rfl, ?_⟩) (⟨cp4, cs, cc, cz, fz⟩) ?_
             rotate_left 1
             · intro u
               go_simp
               try simp only [d1]
               try simp only [d2]
               try simp only [d3]
               try with_reducible rfl
             simp only [Act.put, List.setIfInBounds_toArray, List.set_cons_zero, List.set_cons_succ])
          | (refine mv_free _ (Or.inr ⟨by rfl, rfl⟩) (⟨cp4, cs, cc, cz, fz⟩) ?_
             simp only [Act.put, List.setIfInBounds_toArray, List.set_cons_zero, List.set_cons_succ])
      refine mv_late (fun K hK => ?_)
      go_simp
      refine hK.out (fun _ => True) _ _ ?_
      clear hK K
      refine mv_done ?_
      have h5 := (h4.out.setS (14 + j) (by omega) z).drew
      rw [← eS.out, show 3 + (14 + j) = 17 + j by omega] at h5
      have bs5 := bs4.out.trans (((Beside.of_only (Only.refl b w4)).setCell (p := ⟨b, 17 + j, none⟩) (.int .i64 z)).trans (Beside.of_below (Below.refl _ _).drew))
      replace h5 := Lib.hid h5
      replace bs5 := Lib.hid bs5
      clear h4 bs4 cs cz fz cc cp4
      go_wp2
      go_roundw
      case rel => exact ⟨j, by omega, rfl, Lib.hid ⟨h5.out, bs5.out⟩⟩
      case measure => simp [intOf] <;> omega
end Go.Proofs.Ytiibgblpbjdpaaa
