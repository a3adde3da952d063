/- The nil meter; the chapter's example of meters; the laws ClimbNew and ClimbEven; walked. -/
import Derived.Test.YtflcagcekhgjcaaClimb3
import Derived.Deep.Cut
namespace Go.Proofs.Ytflcagcekhgjcaa
open Go.ChangeShapes Go.WideShapes Go.ChangeAt Go.RowKit
set_option linter.unusedVariables false
set_option linter.unusedSimpArgs false
set_option maxRecDepth 100000 in
set_option maxHeartbeats 8000000 in
theorem cmput_nil (h : Int) (w : World) : Calls Try.prog 36 #[.pointer none, .int .i64 h] w fun e w' => e = .returned (.tuple #[]) ∧ w = w' := by
  go_enter Try.func36, Try.ntmps36
  go_wp2
  refine bodyPost_ret (results_none rfl _ _ _) rfl ⟨rfl, rfl⟩
theorem cmreset_nil (w : World) : Calls Try.prog 37 #[.pointer none] w fun e w' => e = .returned (.tuple #[]) ∧ w = w' := by
  go_enter Try.func37, Try.ntmps37
  go_wp2
  go_end0
  exact ⟨rfl, rfl⟩
theorem cmrate_nil (w : World) : Calls Try.prog 38 #[.pointer none] w fun e w' => e = .returned (.tuple #[.int .i64 0, .bool false]) ∧ w = w' :=
  cmrate_no _ w (cmchange_no none 0 (by omega) _ w (fun u e => by subst e; exact cmlen_nil u))
theorem cmminute_nil (w : World) : Calls Try.prog 39 #[.pointer none] w fun e w' => e = .returned (.tuple #[.int .i64 0, .bool false]) ∧ w = w' :=
  cmminute_no _ w (cmchange_no none 0 (by omega) _ w (fun u e => by subst e; exact cmlen_nil u))
theorem cmrate_few {b : Nat} {sz : Int} {L : List Int} (w : World) (h : Mt b sz L w) (h2 : L.length < 2) : Calls Try.prog 38 #[.pointer (some ⟨b, 0, none⟩)] w fun e w' => e = .returned (.tuple #[.int .i64 0, .bool false]) ∧ w = w' :=
  cmrate_no _ w (cmchange_no none (L.length : Int) (by omega) _ w (fun u e => by subst e; exact cmlen u h))
theorem cmminute_few {b : Nat} {sz : Int} {L : List Int} (w : World) (h : Mt b sz L w) (h2 : L.length < 2) : Calls Try.prog 39 #[.pointer (some ⟨b, 0, none⟩)] w fun e w' => e = .returned (.tuple #[.int .i64 0, .bool false]) ∧ w = w' :=
  cmminute_no _ w (cmchange_no none (L.length : Int) (by omega) _ w (fun u e => by subst e; exact cmlen u h))
theorem cmsteep_nil (w : World) : Calls Try.prog 41 #[.pointer none] w fun e w' => e = .returned (.int .i64 0) ∧ w = w' := by
  have LN := Lib.hid (fun u => cmlen_nil u)
  go_enter Try.func41, Try.ntmps41
  go_wp2_with fail
  go_loopw [3, 4] (fun s i v => s = .int .i64 0 ∧ i = .int .i64 1 ∧ w = v) (fun _ i _ => 0)
  case atStart => exact ⟨rfl, rfl, rfl⟩
  case round =>
    obtain ⟨rfl, rfl, rfl⟩ := hrel
    go_wp2_with fail
    refine (LN.out _).mono ?_
    rintro e w1 ⟨rfl, rfl⟩
    go_wp2
    go_ret
    exact ⟨rfl, rfl⟩
theorem below_put {b : Nat} {w v v' : World} (h : Below w.heap.size w v) (k : Beside b v v') (hb : w.heap.size ≤ b) : Below w.heap.size w v' := h.trans (k.below hb h.size)
set_option maxRecDepth 100000 in
set_option maxHeartbeats 8000000 in
theorem lives27 (w : World) : Calls Try.prog 42 #[] w fun e w' => e = .returned (.bool true) ∧ Below w.heap.size w w' := by
  have NW := Lib.hid (fun u => cmnew_ok 3 u (by omega))
  have PT := Lib.hid (fun (b : Nat) (L : List Int) (h : Int) u (m : Mt b 3 L u) => cmput h u m)
  have RT := Lib.hid (fun (b : Nat) u (m : Mt b 3 [0, 10] u) => cmrate u m (by decide))
  go_enter Try.func42, Try.ntmps42
  go_wp2_with fail
  refine (NW.out _).mono ?_
  rintro e w1 ⟨b, hb, rfl, m1, bel1⟩
  go_wp2_with fail
  refine (PT.out _ _ _ _ m1).mono ?_
  rintro e w2 ⟨rfl, m2, bs2⟩
  have bel2 := below_put bel1 bs2 hb
  clear m1 bel1 bs2
  go_wp2_with fail
  refine (PT.out _ _ _ _ m2).mono ?_
  rintro e w3 ⟨rfl, m3, bs3⟩
  have bel3 := below_put bel2 bs3 hb
  rw [show mtN 3 (mtN 3 [] 0) 10 = [0, 10] from by decide] at m3
  clear m2 bel2 bs3
  go_wp2_with fail
  refine (RT.out _ _ m3).mono ?_
  rw [show cmD [0, 10] * 50 / ((([0, 10] : List Int).length : Int) - 1) = 500 from by decide]
  rintro e w4 ⟨rfl, hb4⟩
  have bel4 := Lib.hid (bel3.trans (hb4.mono bel3.size))
  clear bel3 hb4 m3
  go_wp2
  go_ret
  exact ⟨rfl, bel4.out⟩
set_option maxRecDepth 100000 in
set_option maxHeartbeats 8000000 in
theorem law_ClimbNew (sz h : Int) (w : World) : Calls Try.prog 11 #[.int .i64 sz, .int .i64 h] w fun e w' => e = .returned (.bool true) ∧ Below w.heap.size w w' := by
  have LV := Lib.hid (fun u => lives27 u)
  have PN := Lib.hid (fun u => cmput_nil h u)
  have RN := Lib.hid (fun u => cmreset_nil u)
  have AN := Lib.hid (fun u => cmrate_nil u)
  have MN := Lib.hid (fun u => cmminute_nil u)
  have LN := Lib.hid (fun u => cmlen_nil u)
  have SN := Lib.hid (fun u => cmsteep_nil u)
  rcases (show sz < 1 ∨ (1 ≤ sz ∧ 64 < sz) ∨ (1 ≤ sz ∧ sz ≤ 64) by omega) with g | ⟨g, g2⟩ | ⟨g, g2⟩
  · have NW := Lib.hid (fun u => cmnew_no sz u (by omega))
    go_enter Try.func11, Try.ntmps11
    go_wp2_with fail
    refine (NW.out _).mono ?_
    rintro e w1 ⟨rfl, rfl⟩
    go_wp2_with fail
    refine (PN.out _).mono ?_
    rintro e w9 ⟨rfl, rfl⟩
    go_wp2_with fail
    refine (RN.out _).mono ?_
    rintro e w9 ⟨rfl, rfl⟩
    go_wp2_with fail
    refine (AN.out _).mono ?_
    rintro e w9 ⟨rfl, rfl⟩
    go_wp2_with fail
    refine (MN.out _).mono ?_
    rintro e w9 ⟨rfl, rfl⟩
    go_wp2_with fail
    refine (LN.out _).mono ?_
    rintro e w9 ⟨rfl, rfl⟩
    go_wp2_with fail
    refine (SN.out _).mono ?_
    rintro e w9 ⟨rfl, rfl⟩
    go_wp2_with fail
    refine (LV.out _).mono ?_
    rintro e w20 ⟨rfl, hb20⟩
    have hb21 := Lib.hid ((Below.refl w.heap.size w).trans (hb20.mono ((Below.refl w.heap.size w)).size))
    clear hb20
    go_wp2
    go_ret
    exact ⟨rfl, hb21.out⟩
  · have NW := Lib.hid (fun u => cmnew_no sz u (by omega))
    go_enter Try.func11, Try.ntmps11
    go_wp2_with fail
    refine (NW.out _).mono ?_
    rintro e w1 ⟨rfl, rfl⟩
    go_wp2_with fail
    refine (PN.out _).mono ?_
    rintro e w9 ⟨rfl, rfl⟩
    go_wp2_with fail
    refine (RN.out _).mono ?_
    rintro e w9 ⟨rfl, rfl⟩
    go_wp2_with fail
    refine (AN.out _).mono ?_
    rintro e w9 ⟨rfl, rfl⟩
    go_wp2_with fail
    refine (MN.out _).mono ?_
    rintro e w9 ⟨rfl, rfl⟩
    go_wp2_with fail
    refine (LN.out _).mono ?_
    rintro e w9 ⟨rfl, rfl⟩
    go_wp2_with fail
    refine (SN.out _).mono ?_
    rintro e w9 ⟨rfl, rfl⟩
    go_wp2_with fail
    refine (LV.out _).mono ?_
    rintro e w20 ⟨rfl, hb20⟩
    have hb21 := Lib.hid ((Below.refl w.heap.size w).trans (hb20.mono ((Below.refl w.heap.size w)).size))
    clear hb20
    go_wp2
    go_ret
    exact ⟨rfl, hb21.out⟩
  · have NW := Lib.hid (fun u => cmnew_ok sz u ⟨g, g2⟩)
    have PT := Lib.hid (fun (b : Nat) (L : List Int) u (m : Mt b sz L u) => cmput h u m)
    have l1 : (mtN sz [] h).length = 1 := by
      rw [mtN_len h g (by show (0 : Int) ≤ sz + 1; omega), if_pos (by show (0 : Int) ≤ sz; omega)]
      rfl
    have s0 : stp (mtN sz [] h) = 0 := by unfold stp; rw [l1]; rfl
    have RF := Lib.hid (fun (b : Nat) u (m : Mt b sz (mtN sz [] h) u) => cmrate_few u m (by omega))
    have MF := Lib.hid (fun (b : Nat) u (m : Mt b sz (mtN sz [] h) u) => cmminute_few u m (by omega))
    have LF := fun (b : Nat) u (m : Mt b sz (mtN sz [] h) u) => cmlen u m
    have SF := fun (b : Nat) u (m : Mt b sz (mtN sz [] h) u) => cmsteep u m
    rw [l1] at LF
    rw [s0] at SF
    replace LF := Lib.hid LF
    replace SF := Lib.hid SF
    have PT1 := Lib.hid (fun (b : Nat) u (m : Mt b sz [] u) => PT.out b [] u m)
    generalize mtN sz [] h = L1 at *
    clear l1 s0 PT
    go_enter Try.func11, Try.ntmps11
    go_wp2_with fail
    refine (NW.out _).mono ?_
    rintro e w1 ⟨b, hb, rfl, m1, bel1⟩
    go_wp2_with fail
    refine (PN.out _).mono ?_
    rintro e w9 ⟨rfl, rfl⟩
    go_wp2_with fail
    refine (RN.out _).mono ?_
    rintro e w9 ⟨rfl, rfl⟩
    go_wp2_with fail
    refine (AN.out _).mono ?_
    rintro e w9 ⟨rfl, rfl⟩
    go_wp2_with fail
    refine (MN.out _).mono ?_
    rintro e w9 ⟨rfl, rfl⟩
    go_wp2_with fail
    refine (LN.out _).mono ?_
    rintro e w9 ⟨rfl, rfl⟩
    go_wp2_with fail
    refine (SN.out _).mono ?_
    rintro e w9 ⟨rfl, rfl⟩
    go_wp2_with fail
    refine (PT1.out _ _ m1).mono ?_
    rintro e w2 ⟨rfl, m2, bs2⟩
    have bel2 := below_put bel1 bs2 hb
    clear m1 bel1 bs2
    go_wp2_with fail
    refine (RF.out _ _ m2).mono ?_
    rintro e w9 ⟨rfl, rfl⟩
    go_wp2_with fail
    refine (MF.out _ _ m2).mono ?_
    rintro e w9 ⟨rfl, rfl⟩
    go_wp2_with fail
    refine (LF.out _ _ m2).mono ?_
    rintro e w9 ⟨rfl, rfl⟩
    go_wp2_with fail
    refine (SF.out _ _ m2).mono ?_
    rintro e w9 ⟨rfl, hb9⟩
    have bel9 := bel2.trans (hb9.mono bel2.size)
    clear bel2 hb9
    go_wp2_with fail
    refine (LV.out _).mono ?_
    rintro e w20 ⟨rfl, hb20⟩
    have hb21 := Lib.hid (bel9.trans (hb20.mono (bel9).size))
    clear hb20
    go_wp2
    go_ret
    exact ⟨rfl, hb21.out⟩
theorem ce_box (w : World) (x0 x1 : Int) : ∃ V, V = (w.alloc (.cells #[.int .i64 x0, .int .i64 x1] 67)) ∧ Below w.heap.size w V ∧ V.heap.size = w.heap.size + 1 ∧ ∀ u, Below (w.heap.size + 1) V u → u.cell? ⟨w.heap.size, 0, none⟩ = some (.int .i64 x0) ∧ u.cell? ⟨w.heap.size, 1, none⟩ = some (.int .i64 x1) :=
  ⟨_, rfl, (by repeat (first | exact Below.refl _ _ | assumption | apply Below.drew | apply below_drewN | (refine Below.alloc ?_ (by first | exact Nat.le_refl _ | omega | (simp <;> omega)) _) | (refine Below.setCell ?_ (by first | exact Nat.le_refl _ | omega | (simp <;> omega)) _))), by simp, fun u hu => ⟨(bc hu (by omega)).trans (by go_simp), (bc hu (by omega)).trans (by go_simp)⟩⟩

/-- Heights that rise by as much each tick: the last ones of so many. -/
structure EvL (sz x0 x1 : Int) (k : Nat) (L : List Int) : Prop where
  len : L.length = if (k : Int) ≤ sz + 1 then k else (sz + 1).toNat
  at' : ∀ i, i < L.length → L.getD i 0 = x0 + x1 * ((k - L.length + i : Nat) : Int)
theorem EvL.next {sz x0 x1 : Int} {k : Nat} {L : List Int} (h : EvL sz x0 x1 k L) (s1 : 1 ≤ sz) (s2 : sz ≤ 64) (hb : -100000000 ≤ x0 + x1 * (k : Int) ∧ x0 + x1 * (k : Int) ≤ 100000000) : EvL sz x0 x1 (k + 1) (mtN sz L (x0 + x1 * (k : Int))) := by
  have hl := h.len
  have hln : (L.length : Int) ≤ sz + 1 := by rw [hl]; split <;> omega
  have hlk : L.length ≤ k := by rw [hl]; split <;> omega
  have e := mtN_len (x0 + x1 * (k : Int)) s1 hln
  refine ⟨?_, fun i hi => ?_⟩
  · rw [e, hl]
    split <;> split <;> first | omega | (split <;> omega)
  · rw [mtN_at _ hi]
    have hcl : cmH (x0 + x1 * (k : Int)) = x0 + x1 * (k : Int) := by unfold cmH; omega
    rw [hcl]
    by_cases hc : (L.length : Int) ≤ sz
    · rw [if_pos hc] at e
      rw [e] at hi ⊢
      split
      · rename_i hlt
        rw [h.at' _ hlt, show k - L.length + (i + (L.length + 1 - (sz.toNat + 1))) = k + 1 - (L.length + 1) + i by omega]
      · rename_i hlt
        rw [show k + 1 - (L.length + 1) + i = k by omega]
    · rw [if_neg hc] at e
      rw [e] at hi ⊢
      split
      · rename_i hlt
        rw [h.at' _ hlt, show k - L.length + (i + (L.length + 1 - (sz.toNat + 1))) = k + 1 - L.length + i by omega]
      · rename_i hlt
        rw [show k + 1 - L.length + i = k by omega]
theorem EvL.rate {sz x0 x1 : Int} {k : Nat} {L : List Int} (h : EvL sz x0 x1 k L) (h2 : 2 ≤ L.length) : cmD L * 50 / ((L.length : Int) - 1) = 50 * x1 := by
  unfold cmD
  rw [h.at' _ (by omega), h.at' 0 (by omega)]
  have e : ((k - L.length + (L.length - 1) : Nat) : Int) = ((k - L.length + 0 : Nat) : Int) + ((L.length : Int) - 1) := by omega
  rw [e]
  generalize ((k - L.length + 0 : Nat) : Int) = p
  obtain ⟨n, hn⟩ : ∃ n : Int, n = (L.length : Int) - 1 := ⟨_, rfl⟩
  rw [← hn]
  have e2 : (x0 + x1 * (p + n) - (x0 + x1 * p)) * 50 = 50 * x1 * n := by
    rw [Int.mul_add]
    have : x0 + (x1 * p + x1 * n) - (x0 + x1 * p) = x1 * n := by omega
    rw [this, Int.mul_comm (x1 * n) 50, Int.mul_assoc]
  rw [e2, Int.mul_ediv_cancel _ (by omega)]
theorem ev_bd {x0 x1 : Int} {k : Nat} (a1 : -1000000 ≤ x0) (a2 : x0 ≤ 1000000) (b1 : -100000 ≤ x1) (b2 : x1 ≤ 100000) (hk : k ≤ 200) : -100000000 ≤ x0 + x1 * (k : Int) ∧ x0 + x1 * (k : Int) ≤ 100000000 := by
  have h0 : (0 : Int) ≤ (k : Int) := by omega
  have h1 : x1 * (k : Int) ≤ 100000 * (k : Int) := Int.mul_le_mul_of_nonneg_right b2 h0
  have h2 : -100000 * (k : Int) ≤ x1 * (k : Int) := Int.mul_le_mul_of_nonneg_right b1 h0
  omega
set_option maxRecDepth 100000 in
set_option maxHeartbeats 8000000 in
theorem law_ClimbEven (sz many x0 x1 : Int) (w : World) : Calls Try.prog 14 #[.int .i64 sz, .int .i64 many, .agg #[.int .i64 x0, .int .i64 x1]] w fun e w' => e = .returned (.bool true) ∧ Below w.heap.size w w' := by
  obtain ⟨V, eV, hb0, hz, hcs⟩ := ce_box w x0 x1
  have LV := Lib.hid (fun u => lives27 u)
  rcases (show (sz < 1 ∨ 64 < sz) ∨ (1 ≤ sz ∧ sz ≤ 64) by omega) with g | ⟨g, g2⟩
  · have NW := Lib.hid (fun u => cmnew_no sz u g)
    clear g
    replace hb0 := Lib.hid hb0
    replace hz := Lib.hid hz
    replace hcs := Lib.hid hcs
    replace eV := Lib.hid eV
    go_enter Try.func14, Try.ntmps14
    go_wp2_with fail
    rw [← eV.out]
    obtain ⟨k0, k1⟩ := hcs.out _ (Below.refl _ _)
    go_wp2_with fail
    refine (NW.out _).mono ?_
    rintro e w1 ⟨rfl, rfl⟩
    have hb1 := Below.refl (w.heap.size + 1) V
    go_wp2_with fail
    refine (LV.out _).mono ?_
    rintro e w20 ⟨rfl, hb20⟩
    have hb20 := hb1.trans (hb20.mono (by have := hb1.size; have := hz.out; omega))
    go_wp2
    go_ret
    exact ⟨rfl, hb0.out.trans (hb20.mono (by omega))⟩
  have NW := Lib.hid (fun u => cmnew_ok sz u ⟨g, g2⟩)
  rcases (show many < 0 ∨ (0 ≤ many ∧ 200 < many) ∨ (0 ≤ many ∧ many ≤ 200 ∧ x0 < -1000000) ∨ (0 ≤ many ∧ many ≤ 200 ∧ -1000000 ≤ x0 ∧ 1000000 < x0) ∨ (0 ≤ many ∧ many ≤ 200 ∧ -1000000 ≤ x0 ∧ x0 ≤ 1000000 ∧ x1 < -100000) ∨ (0 ≤ many ∧ many ≤ 200 ∧ -1000000 ≤ x0 ∧ x0 ≤ 1000000 ∧ -100000 ≤ x1 ∧ 100000 < x1) ∨ (0 ≤ many ∧ many ≤ 200 ∧ -1000000 ≤ x0 ∧ x0 ≤ 1000000 ∧ -100000 ≤ x1 ∧ x1 ≤ 100000) by omega) with h | ⟨h, h2⟩ | ⟨h, h2, h3⟩ | ⟨h, h2, h3, h4⟩ | ⟨h, h2, h3, h4, h5⟩ | ⟨h, h2, h3, h4, h5, h6⟩ | ⟨h, h2, h3, h4, h5, h6⟩
  · skip
    replace hb0 := Lib.hid hb0
    replace hz := Lib.hid hz
    replace hcs := Lib.hid hcs
    replace eV := Lib.hid eV
    go_enter Try.func14, Try.ntmps14
    go_wp2_with fail
    rw [← eV.out]
    obtain ⟨k0, k1⟩ := hcs.out _ (Below.refl _ _)
    go_wp2_with fail
    refine (NW.out _).mono ?_
    rintro e w1 ⟨b, hbb, rfl, m1, hb1⟩
    have hb1 := (Below.refl (w.heap.size + 1) V).trans (hb1.mono (Nat.le_of_eq hz.out.symm))
    have hbb := Lib.hid (show w.heap.size + 1 ≤ b from by have := hz.out; omega)
    obtain ⟨k0, k1⟩ := hcs.out _ hb1
    go_wp2_with fail
    refine (LV.out _).mono ?_
    rintro e w20 ⟨rfl, hb20⟩
    have hb20 := hb1.trans (hb20.mono (by have := hb1.size; have := hz.out; omega))
    go_wp2
    go_ret
    exact ⟨rfl, hb0.out.trans (hb20.mono (by omega))⟩
  · skip
    replace hb0 := Lib.hid hb0
    replace hz := Lib.hid hz
    replace hcs := Lib.hid hcs
    replace eV := Lib.hid eV
    go_enter Try.func14, Try.ntmps14
    go_wp2_with fail
    rw [← eV.out]
    obtain ⟨k0, k1⟩ := hcs.out _ (Below.refl _ _)
    go_wp2_with fail
    refine (NW.out _).mono ?_
    rintro e w1 ⟨b, hbb, rfl, m1, hb1⟩
    have hb1 := (Below.refl (w.heap.size + 1) V).trans (hb1.mono (Nat.le_of_eq hz.out.symm))
    have hbb := Lib.hid (show w.heap.size + 1 ≤ b from by have := hz.out; omega)
    obtain ⟨k0, k1⟩ := hcs.out _ hb1
    go_wp2_with fail
    refine (LV.out _).mono ?_
    rintro e w20 ⟨rfl, hb20⟩
    have hb20 := hb1.trans (hb20.mono (by have := hb1.size; have := hz.out; omega))
    go_wp2
    go_ret
    exact ⟨rfl, hb0.out.trans (hb20.mono (by omega))⟩
  · skip
    replace hb0 := Lib.hid hb0
    replace hz := Lib.hid hz
    replace hcs := Lib.hid hcs
    replace eV := Lib.hid eV
    go_enter Try.func14, Try.ntmps14
    go_wp2_with fail
    rw [← eV.out]
    obtain ⟨k0, k1⟩ := hcs.out _ (Below.refl _ _)
    go_wp2_with fail
    refine (NW.out _).mono ?_
    rintro e w1 ⟨b, hbb, rfl, m1, hb1⟩
    have hb1 := (Below.refl (w.heap.size + 1) V).trans (hb1.mono (Nat.le_of_eq hz.out.symm))
    have hbb := Lib.hid (show w.heap.size + 1 ≤ b from by have := hz.out; omega)
    obtain ⟨k0, k1⟩ := hcs.out _ hb1
    go_wp2_with fail
    refine (LV.out _).mono ?_
    rintro e w20 ⟨rfl, hb20⟩
    have hb20 := hb1.trans (hb20.mono (by have := hb1.size; have := hz.out; omega))
    go_wp2
    go_ret
    exact ⟨rfl, hb0.out.trans (hb20.mono (by omega))⟩
  · skip
    replace hb0 := Lib.hid hb0
    replace hz := Lib.hid hz
    replace hcs := Lib.hid hcs
    replace eV := Lib.hid eV
    go_enter Try.func14, Try.ntmps14
    go_wp2_with fail
    rw [← eV.out]
    obtain ⟨k0, k1⟩ := hcs.out _ (Below.refl _ _)
    go_wp2_with fail
    refine (NW.out _).mono ?_
    rintro e w1 ⟨b, hbb, rfl, m1, hb1⟩
    have hb1 := (Below.refl (w.heap.size + 1) V).trans (hb1.mono (Nat.le_of_eq hz.out.symm))
    have hbb := Lib.hid (show w.heap.size + 1 ≤ b from by have := hz.out; omega)
    obtain ⟨k0, k1⟩ := hcs.out _ hb1
    go_wp2_with fail
    refine (LV.out _).mono ?_
    rintro e w20 ⟨rfl, hb20⟩
    have hb20 := hb1.trans (hb20.mono (by have := hb1.size; have := hz.out; omega))
    go_wp2
    go_ret
    exact ⟨rfl, hb0.out.trans (hb20.mono (by omega))⟩
  · skip
    replace hb0 := Lib.hid hb0
    replace hz := Lib.hid hz
    replace hcs := Lib.hid hcs
    replace eV := Lib.hid eV
    go_enter Try.func14, Try.ntmps14
    go_wp2_with fail
    rw [← eV.out]
    obtain ⟨k0, k1⟩ := hcs.out _ (Below.refl _ _)
    go_wp2_with fail
    refine (NW.out _).mono ?_
    rintro e w1 ⟨b, hbb, rfl, m1, hb1⟩
    have hb1 := (Below.refl (w.heap.size + 1) V).trans (hb1.mono (Nat.le_of_eq hz.out.symm))
    have hbb := Lib.hid (show w.heap.size + 1 ≤ b from by have := hz.out; omega)
    obtain ⟨k0, k1⟩ := hcs.out _ hb1
    go_wp2_with fail
    refine (LV.out _).mono ?_
    rintro e w20 ⟨rfl, hb20⟩
    have hb20 := hb1.trans (hb20.mono (by have := hb1.size; have := hz.out; omega))
    go_wp2
    go_ret
    exact ⟨rfl, hb0.out.trans (hb20.mono (by omega))⟩
  · skip
    replace hb0 := Lib.hid hb0
    replace hz := Lib.hid hz
    replace hcs := Lib.hid hcs
    replace eV := Lib.hid eV
    go_enter Try.func14, Try.ntmps14
    go_wp2_with fail
    rw [← eV.out]
    obtain ⟨k0, k1⟩ := hcs.out _ (Below.refl _ _)
    go_wp2_with fail
    refine (NW.out _).mono ?_
    rintro e w1 ⟨b, hbb, rfl, m1, hb1⟩
    have hb1 := (Below.refl (w.heap.size + 1) V).trans (hb1.mono (Nat.le_of_eq hz.out.symm))
    have hbb := Lib.hid (show w.heap.size + 1 ≤ b from by have := hz.out; omega)
    obtain ⟨k0, k1⟩ := hcs.out _ hb1
    go_wp2_with fail
    refine (LV.out _).mono ?_
    rintro e w20 ⟨rfl, hb20⟩
    have hb20 := hb1.trans (hb20.mono (by have := hb1.size; have := hz.out; omega))
    go_wp2
    go_ret
    exact ⟨rfl, hb0.out.trans (hb20.mono (by omega))⟩
  have PT := Lib.hid (fun (b : Nat) (L : List Int) (h : Int) u (m : Mt b sz L u) => cmput h u m)
  have RF := Lib.hid (fun (b : Nat) (L : List Int) u (m : Mt b sz L u) (z : L.length < 2) => cmrate_few u m z)
  have RT := Lib.hid (fun (b : Nat) (L : List Int) u (m : Mt b sz L u) (z : 2 ≤ L.length) => cmrate u m z)
  have BD := Lib.hid (fun (k : Nat) (hk : k ≤ 200) => ev_bd (x0 := x0) (x1 := x1) (k := k) h3 h4 h5 h6 hk)
  have XB := Lib.hid (show -100000 ≤ x1 ∧ x1 ≤ 100000 from ⟨h5, h6⟩)
  replace hb0 := Lib.hid hb0
  replace hz := Lib.hid hz
  replace hcs := Lib.hid hcs
  replace eV := Lib.hid eV
  go_enter Try.func14, Try.ntmps14
  go_wp2_with fail
  rw [← eV.out]
  obtain ⟨k0, k1⟩ := hcs.out _ (Below.refl _ _)
  go_wp2_with fail
  refine (NW.out _).mono ?_
  rintro e w1 ⟨b, hbb, rfl, m1, hb1⟩
  have hb1 := (Below.refl (w.heap.size + 1) V).trans (hb1.mono (Nat.le_of_eq hz.out.symm))
  have hbb := Lib.hid (show w.heap.size + 1 ≤ b from by have := hz.out; omega)
  obtain ⟨k0, k1⟩ := hcs.out _ hb1
  have m1 := Lib.hid m1
  have ev0 := Lib.hid (show EvL sz x0 x1 0 [] from ⟨by rw [if_pos (by show (0 : Int) ≤ sz + 1; omega)]; rfl, fun i hi => absurd hi (Nat.not_lt_zero _)⟩)
  go_wp2_with fail
  go_loopw [9] (fun i v => ∃ (k : Nat) (L : List Int), (k : Int) ≤ many ∧ i = .int .i64 (k : Int) ∧ Below (w.heap.size + 1) V v ∧ Hid (Mt b sz L v ∧ EvL sz x0 x1 k L)) (fun i _ => many.toNat - (intOf i).toNat)
  case atStart => exact ⟨0, [], by omega, rfl, hb1, Lib.hid ⟨m1.out, ev0.out⟩⟩
  case round =>
    clear hb1 m1 ev0 k0 k1
    obtain ⟨k, L, hk, rfl, hb, hS⟩ := hrel
    obtain ⟨k0, k1⟩ := hcs.out _ hb
    by_cases hlt : (k : Int) < many
    · have bd := BD.out k (by omega)
      have EN := hS.out.2.next g g2 bd
      have hl : (mtN sz L (x0 + x1 * (k : Int))).length = if ((k + 1 : Nat) : Int) ≤ sz + 1 then k + 1 else (sz + 1).toNat := EN.len
      have l0 : 0 ≤ (k : Int) := by omega
      obtain ⟨P, hP⟩ : ∃ P, P = x1 * (k : Int) := ⟨_, rfl⟩
      rw [← hP] at bd EN hl
      have n1 : IntKind.i64.wrap (x1 * (k : Int)) = P := by rw [← hP, IntKind.wrap_i64]; omega
      have n2 : IntKind.i64.wrap (x0 + P) = x0 + P := by rw [IntKind.wrap_i64]; omega
      have n3 : IntKind.i64.wrap (50 * x1) = 50 * x1 := by have := XB.out; rw [IntKind.wrap_i64]; omega
      have hm0 := hS.out.1
      replace hP := Lib.hid hP
      replace EN := Lib.hid EN
      clear hS bd
      go_wp2_with fail
      refine (PT.out b L (x0 + P) _ hm0).mono ?_
      rintro e w2 ⟨rfl, m2, bs2⟩
      have hb2 := hb.trans (bs2.below hbb.out (by have := hb.size; have := hz.out; omega))
      clear hb bs2 hm0 k0 k1
      obtain ⟨k0, k1⟩ := hcs.out _ hb2
      by_cases hk0 : k = 0
      · subst hk0
        have R := Lib.hid (RF.out b _ _ m2 (by rw [hl]; split <;> omega))
        replace m2 := Lib.hid m2
        clear hl
        go_wp2_with fail
        refine R.out.mono ?_
        rintro e w3 ⟨rfl, rfl⟩
        go_wp2
        go_roundw
        case rel => exact ⟨1, _, by omega, by go_num, hb2, Lib.hid ⟨m2.out, EN.out⟩⟩
        case measure => simp [intOf]; omega
      · have R := RT.out b _ _ m2 (by rw [hl]; split <;> omega)
        rw [EN.out.rate (by rw [hl]; split <;> omega)] at R
        replace R := Lib.hid R
        replace m2 := Lib.hid m2
        have kp : 0 < (k : Int) := by omega
        have d1 : ((50 * x1) != (50 * x1)) = false := by simp
        clear hl
        go_wp2_with fail
        refine R.out.mono ?_
        rintro e w3 ⟨rfl, hb3⟩
        have m3 := Lib.hid (m2.out.bel hb3)
        have hb4 := hb2.trans (hb3.mono (by have := hb2.size; have := hz.out; omega))
        clear hb2 hb3 m2 k0 k1
        obtain ⟨k0, k1⟩ := hcs.out _ hb4
        go_wp2
        go_roundw
        case rel => exact ⟨k + 1, _, by omega, by go_num, hb4, Lib.hid ⟨m3.out, EN.out⟩⟩
        case measure => simp [intOf]; omega
    · have hge : many ≤ (k : Int) := by omega
      clear hS
      have hb1 := hb
      go_wp2_with fail
      refine (LV.out _).mono ?_
      rintro e w20 ⟨rfl, hb20⟩
      have hb20 := hb1.trans (hb20.mono (by have := hb1.size; have := hz.out; omega))
      go_wp2
      go_ret
      exact ⟨rfl, hb0.out.trans (hb20.mono (by omega))⟩
end Go.Proofs.Ytflcagcekhgjcaa
