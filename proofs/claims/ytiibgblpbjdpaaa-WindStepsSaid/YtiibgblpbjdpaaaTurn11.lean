/- A turner of a law's own; the examples; the laws TurnQuarters, TurnPoints; walked. -/
import Derived.Test.YtiibgblpbjdpaaaTurn7
import Derived.Test.YtiibgblpbjdpaaaTurnQ
import Derived.Test.YtiibgblpbjdpaaaSatClip
import Derived.Deep.Cut
namespace Go.Proofs.Ytiibgblpbjdpaaa
open Go.ChangeShapes Go.WideShapes Go.ChangeAt Go.RowKit
set_option linter.unusedVariables false
set_option linter.unusedSimpArgs false
noncomputable def turL : List Value := match Try.t40.zero with
  | some (.agg z) => z.toList
  | _ => []
set_option maxRecDepth 100000 in
theorem turL_zero (w : World) : (zeroValue 40).run Try.prog w = .ok (.agg turL.toArray) w := by kernel_rfl
set_option maxRecDepth 100000 in
theorem turL_is : turL = .int .u32 0 :: .int .i32 0 :: .int .u32 0 :: List.replicate 28 (.int .i64 0) := by kernel_rfl
theorem tur_new : ∃ Z : Array Value, (∀ w, (zeroValue 40).run Try.prog w = .ok (.agg Z) w) ∧ ∀ w : World, TurO w.heap.size 0 0 (fun _ => 0) [] (w.alloc (.cells Z 40)) ∧ Below w.heap.size w (w.alloc (.cells Z 40)) ∧ (w.alloc (.cells Z 40)).heap.size = w.heap.size + 1 := by
  refine ⟨turL.toArray, turL_zero, fun w => ?_⟩
  have H := Held.new w turL 40
  have l : turL.length = 31 := by rw [turL_is]; rfl
  exact ⟨⟨H.lt, H.c 0 _ (by rw [turL_is]; rfl), H.c 1 _ (by rw [turL_is]; rfl), fun i hi => H.c (3 + i) _ (by rw [turL_is, show 3 + i = i + 1 + 1 + 1 by omega]; show (List.replicate 28 (Value.int .i64 0))[i]? = _; rw [List.getElem?_replicate, if_pos hi]), fun i v hv => by simp at hv, fun o ho => H.f o (by rw [l]; simpa using ho)⟩, (by repeat (first | exact Below.refl _ _ | assumption | apply Below.drew | apply below_drewN | (refine Below.alloc ?_ (by first | exact Nat.le_refl _ | omega | (simp <;> omega)) _) | (refine Below.setCell ?_ (by first | exact Nat.le_refl _ | omega | (simp <;> omega)) _))), by simp⟩
/-- The law's turner stands in block t; what lay in w is as it was. -/
structure TurW (t : Nat) (w u : World) : Prop where
  r : TurR t [] u
  b : Below w.heap.size w u
  n : w.heap.size ≤ t
theorem TurW.step {t : Nat} {w u u' : World} (h : TurW t w u) (a : TurO t 1 0 tG [] u') (k : Beside t u u') : TurW t w u' := ⟨.inr a, h.b.trans (k.below h.n h.b.size), h.n⟩
theorem TurW.stepR {t : Nat} {w u u' : World} (h : TurW t w u) (a : TurR t [] u') (k : Beside t u u') : TurW t w u' := ⟨a, h.b.trans (k.below h.n h.b.size), h.n⟩
theorem TurW.bel {t : Nat} {w u u' : World} (h : TurW t w u) (k : Below u.heap.size u u') : TurW t w u' := ⟨h.r.bel k, h.b.trans (k.mono h.b.size), h.n⟩
theorem TurW.new (w w1 : World) (k : Below w.heap.size w w1) : ∃ (Z : Array Value) (V : World), (∀ u, (zeroValue 40).run Try.prog u = .ok (.agg Z) u) ∧ V = w1.alloc (.cells Z 40) ∧ Below w1.heap.size w1 V ∧ TurW w1.heap.size w V := by
  obtain ⟨Z, hz, HN⟩ := tur_new
  obtain ⟨hA, hb, _⟩ := HN w1
  exact ⟨Z, _, hz, rfl, hb, .inl ⟨_, hA⟩, k.trans (hb.mono k.size), k.size⟩
theorem tatW (t a : Nat) (w u : World) (m : TurW t w u) (ha : a < 65536) : Calls Try.prog 15 #[.pointer (some ⟨t, 0, none⟩), .int .u16 (a : Int)] u fun e w' => e = .returned (.tuple #[.int .i64 (atP a).1, .int .i64 (atP a).2]) ∧ TurW t w w' ∧ Beside t u w' :=
  (tat t a [] u m.r ha).mono (fun e w' q => ⟨q.1, m.step q.2.1 q.2.2, q.2.2⟩)
theorem tpointW (t a : Nat) (n : Int) (w u : World) (m : TurW t w u) (ha : a < 65536) : Calls Try.prog 20 #[.pointer (some ⟨t, 0, none⟩), .int .u16 (a : Int), .int .i64 n] u fun e w' => e = .returned (.tuple #[.int .i64 (trV (atP a).1 (clp n) 1073741824), .int .i64 (trV (atP a).2 (clp n) 1073741824)]) ∧ TurW t w w' ∧ Beside t u w' :=
  (tpoint t a n [] u m.r ha).mono (fun e w' q => ⟨q.1, m.step q.2.1 q.2.2, q.2.2⟩)
theorem tangW (t : Nat) (x y : Int) (w u : World) (m : TurW t w u) : Calls Try.prog 16 #[.pointer (some ⟨t, 0, none⟩), .int .i64 x, .int .i64 y] u fun e w' => e = .returned (.int .u16 (anV x y : Int)) ∧ TurW t w w' ∧ Beside t u w' :=
  (tang t x y [] u m.r).mono (fun e w' q => ⟨q.1, m.stepR q.2.1 q.2.2, q.2.2⟩)
set_option maxRecDepth 100000 in
set_option maxHeartbeats 8000000 in
theorem lives04 (w : World) : Calls Try.prog 17 #[] w fun e w' => e = .returned (.bool true) ∧ Below w.heap.size w w' := by
  obtain ⟨Z, V, hz, eV, hbV, mV⟩ := TurW.new w w (Below.refl _ _)
  replace eV := Lib.hid eV
  replace mV := Lib.hid mV
  clear hbV
  have A1 := Lib.hid (fun u m => show Calls Try.prog 15 #[.pointer (some ⟨w.heap.size, 0, none⟩), .int .u16 16384] u fun e w' => e = .returned (.tuple #[.int .i64 0, .int .i64 1073741824]) ∧ TurW w.heap.size w w' ∧ Beside w.heap.size u w' from by
    have := tatW w.heap.size 16384 w u m (by omega)
    rw [at_axes.2.1] at this
    exact this)
  have A2 := Lib.hid (fun u m => show Calls Try.prog 15 #[.pointer (some ⟨w.heap.size, 0, none⟩), .int .u16 32768] u fun e w' => e = .returned (.tuple #[.int .i64 (-1073741824), .int .i64 0]) ∧ TurW w.heap.size w w' ∧ Beside w.heap.size u w' from by
    have := tatW w.heap.size 32768 w u m (by omega)
    rw [at_axes.2.2.1] at this
    exact this)
  go_enter Try.func17, Try.ntmps17
  go_wp2_with fail
  rw [← eV.out]
  refine (A1.out _ mV.out).mono ?_
  rintro e w1 ⟨rfl, m1, -⟩
  replace m1 := Lib.hid m1
  go_wp2_with fail
  refine (A2.out _ m1.out).mono ?_
  rintro e w2 ⟨rfl, m2, -⟩
  replace m2 := Lib.hid m2
  go_wp2
  go_ret
  exact ⟨rfl, m2.out.b⟩
set_option maxRecDepth 100000 in
set_option maxHeartbeats 8000000 in
theorem law_TurnQuarters (a : Nat) (w : World) (ha : a < 65536) : Calls Try.prog 6 #[.int .u16 (a : Int)] w fun e w' => e = .returned (.bool true) ∧ Below w.heap.size w w' := by
  obtain ⟨Z, V, hz, eV, hbV, mV⟩ := TurW.new w w (Below.refl _ _)
  replace eV := Lib.hid eV
  replace mV := Lib.hid mV
  clear hbV
  have LV := Lib.hid (fun u => lives04 u)
  obtain ⟨N, hN⟩ : ∃ N, N = (a + 16384) % 65536 := ⟨_, rfl⟩
  have A1 := Lib.hid (fun u m => tatW w.heap.size a w u m ha)
  have A2 := fun u m => tatW w.heap.size N w u m (by omega)
  have qt := atP_quarter a ha
  rw [← hN] at qt
  rw [qt, show (rq (atP a)).1 = -(atP a).2 from rfl, show (rq (atP a)).2 = (atP a).1 from rfl] at A2
  replace A2 := Lib.hid A2
  have A3 := Lib.hid (fun u m => tangW w.heap.size (atP a).1 (atP a).2 w u m)
  have bd := (atP_le a).one
  have an := at_any a ha
  have al := anV_lt (atP a).1 (atP a).2
  unfold AtR at an
  clear qt
  generalize anV (atP a).1 (atP a).2 = G at *
  generalize (atP a).1 = x at *
  generalize (atP a).2 = y at *
  have wN : IntKind.u16.wrap ((a : Int) + 16384) = (N : Int) := by rw [IntKind.wrap_u16]; omega
  have x1 : ¬ 1073741824 < x := by omega
  have x2 : ¬ x < -1073741824 := by omega
  have y1 : ¬ 1073741824 < y := by omega
  have y2 : ¬ y < -1073741824 := by omega
  have wy : IntKind.i64.wrap (-y) = -y := by rw [IntKind.wrap_i64]; omega
  have px := tsq_nn x
  have py := tsq_nn y
  obtain ⟨p, ep⟩ : ∃ p, p = x * x := ⟨_, rfl⟩
  obtain ⟨q, eq⟩ : ∃ q, q = y * y := ⟨_, rfl⟩
  rw [← ep, ← eq] at an
  rw [← ep] at px
  rw [← eq] at py
  have w1 : IntKind.i64.wrap (x * x) = p := by rw [← ep, IntKind.wrap_i64]; omega
  have w2 : IntKind.i64.wrap (y * y) = q := by rw [← eq, IntKind.wrap_i64]; omega
  have w3 : IntKind.i64.wrap (p + q) = p + q := by rw [IntKind.wrap_i64]; omega
  obtain ⟨O, eO⟩ : ∃ O, O = p + q - 1152921504606846976 := ⟨_, rfl⟩
  have w4 : IntKind.i64.wrap (p + q - 1152921504606846976) = O := by rw [← eO, IntKind.wrap_i64]; omega
  obtain ⟨D, eD⟩ : ∃ D, D = (G : Int) - (a : Int) := ⟨_, rfl⟩
  have w5 : IntKind.i64.wrap ((G : Int) - (a : Int)) = D := by rw [← eD, IntKind.wrap_i64]; omega
  have w6 : IntKind.i64.wrap (G : Int) = (G : Int) := by rw [IntKind.wrap_i64]; omega
  have w7 : IntKind.i64.wrap (a : Int) = (a : Int) := by rw [IntKind.wrap_i64]; omega
  have d1 : ¬ D < -32768 := by omega
  have d2 : ¬ 32768 < D := by omega
  have d3 : D ≤ 2 := by omega
  have d4 : -2 ≤ D := by omega
  have o1 : O < 1099511627776 := by omega
  have o2 : -1099511627776 < O := by omega
  clear an al bd px py ep eq eO eD hN
  go_enter Try.func6, Try.ntmps6
  go_wp2_with fail
  rw [← eV.out]
  refine (A1.out _ mV.out).mono ?_
  rintro e v1 ⟨rfl, m1, -⟩
  replace m1 := Lib.hid m1
  go_wp2_with fail
  refine (A2.out _ m1.out).mono ?_
  rintro e v2 ⟨rfl, m2, -⟩
  replace m2 := Lib.hid m2
  go_wp2_with fail
  refine (A3.out _ m2.out).mono ?_
  rintro e v3 ⟨rfl, m3, -⟩
  replace m3 := Lib.hid m3
  go_wp2_with fail
  refine (LV.out _).mono ?_
  rintro e v4 ⟨rfl, hb4⟩
  have m4 := Lib.hid (m3.out.bel hb4)
  clear hb4
  go_wp2
  go_ret
  exact ⟨rfl, m4.out.b⟩
theorem tdO_le {x c : Int} (h : -1073741824 ≤ x ∧ x ≤ 1073741824) : absI (tdO (x * c)) ≤ absI c := by
  have k : ∀ {x c : Int}, 0 ≤ x → x ≤ 1073741824 → 0 ≤ c → 0 ≤ tdO (x * c) ∧ tdO (x * c) ≤ c := fun {x c} h0 h1 hc => by
    have a := Int.mul_nonneg h0 hc
    have b : x * c ≤ 1073741824 * c := Int.mul_le_mul_of_nonneg_right h1 hc
    rw [tdO_pos a]
    omega
  unfold absI
  rcases Int.le_total 0 x with p | p <;> rcases Int.le_total 0 c with q | q
  · have := k p h.2 q; omega
  · have := k (c := -c) p h.2 (by omega)
    rw [Int.mul_neg, tdO_neg] at this; omega
  · have := k (x := -x) (by omega) (by omega) q
    rw [Int.neg_mul, tdO_neg] at this; omega
  · have := k (x := -x) (c := -c) (by omega) (by omega) (by omega)
    rw [Int.neg_mul_neg] at this; omega
set_option maxRecDepth 100000 in
set_option maxHeartbeats 8000000 in
theorem law_TurnPoints (a : Nat) (n : Int) (w : World) (ha : a < 65536) : Calls Try.prog 7 #[.int .u16 (a : Int), .int .i64 n] w fun e w' => e = .returned (.bool true) ∧ Below w.heap.size w w' := by
  obtain ⟨Z, V, hz, eV, hbV, mV⟩ := TurW.new w w (Below.refl _ _)
  replace eV := Lib.hid eV
  replace mV := Lib.hid mV
  clear hbV
  have LV := Lib.hid (fun u => lives04 u)
  obtain ⟨N, hN⟩ : ∃ N, N = (a + 32768) % 65536 := ⟨_, rfl⟩
  have bc := clp_bd n
  have A1 := fun u m => tpointW w.heap.size a n w u m ha
  have A2 := fun u m => tpointW w.heap.size N n w u m (by omega)
  have qt := atP_half a ha
  have bd := (atP_le a).one
  rw [← hN] at qt
  rw [qt, show (-(atP a).1, -(atP a).2).1 = -(atP a).1 from rfl, show (-(atP a).1, -(atP a).2).2 = -(atP a).2 from rfl, trV_tdO ⟨by omega, by omega⟩ bc, trV_tdO ⟨by omega, by omega⟩ bc, Int.neg_mul, Int.neg_mul, tdO_neg, tdO_neg] at A2
  rw [trV_tdO bd.1 bc, trV_tdO bd.2 bc] at A1
  have b1 := tdO_le (c := clp n) bd.1
  have b2 := tdO_le (c := clp n) bd.2
  replace A1 := Lib.hid A1
  replace A2 := Lib.hid A2
  have CL := Lib.hid (fun u => rclip_any n u)
  clear qt bd
  generalize tdO ((atP a).1 * clp n) = x at *
  generalize tdO ((atP a).2 * clp n) = y at *
  generalize clp n = c at *
  have bx : -1099511627775 ≤ x ∧ x ≤ 1099511627775 := by unfold absI at b1; omega
  have by1 : -1099511627775 ≤ y ∧ y ≤ 1099511627775 := by unfold absI at b2; omega
  have B0 := Lib.hid (fun u => rabs_any c u bc)
  have B1 := Lib.hid (fun u => rabs_any x u bx)
  have B2 := Lib.hid (fun u => rabs_any y u by1)
  have nb : 0 ≤ absI c ∧ absI c ≤ 1099511627775 := by unfold absI; omega
  generalize absI c = M at *
  generalize absI x = X at *
  generalize absI y = Y at *
  have wN : IntKind.u16.wrap ((a : Int) + 32768) = (N : Int) := by rw [IntKind.wrap_u16]; omega
  have wx : IntKind.i64.wrap (-x) = -x := by rw [IntKind.wrap_i64]; omega
  have wy : IntKind.i64.wrap (-y) = -y := by rw [IntKind.wrap_i64]; omega
  have w1 : M.tdiv 500000 = M / 500000 := Int.tdiv_eq_ediv_of_nonneg nb.1
  obtain ⟨Q, eQ⟩ : ∃ Q, M / 500000 = Q := ⟨_, rfl⟩
  rw [eQ] at w1
  have w0 : IntKind.i64.wrap Q = Q := by rw [IntKind.wrap_i64]; omega
  have w2 : IntKind.i64.wrap (M + Q) = M + Q := by rw [IntKind.wrap_i64]; omega
  have w3 : IntKind.i64.wrap (M + Q + 2) = M + Q + 2 := by rw [IntKind.wrap_i64]; omega
  have l1 : X ≤ M + Q + 2 := by omega
  have l2 : Y ≤ M + Q + 2 := by omega
  clear bc b1 b2 bx by1 nb hN
  replace eQ := Lib.hid eQ
  go_enter Try.func7, Try.ntmps7
  go_wp2_with fail
  rw [← eV.out]
  refine (A1.out _ mV.out).mono ?_
  rintro e v1 ⟨rfl, m1, -⟩
  replace m1 := Lib.hid m1
  go_wp2_with fail
  refine (A2.out _ m1.out).mono ?_
  rintro e v2 ⟨rfl, m2, -⟩
  replace m2 := Lib.hid m2
  go_wp2_with fail
  refine (CL.out _).mono ?_
  rintro e v3 ⟨rfl, rfl⟩
  go_wp2_with fail
  refine (B0.out _).mono ?_
  rintro e v3 ⟨rfl, rfl⟩
  go_wp2_with fail
  refine (B1.out _).mono ?_
  rintro e v3 ⟨rfl, rfl⟩
  go_wp2_with fail
  refine (B2.out _).mono ?_
  rintro e v3 ⟨rfl, rfl⟩
  go_wp2_with fail
  refine (LV.out _).mono ?_
  rintro e v4 ⟨rfl, hb4⟩
  have m4 := Lib.hid (m2.out.bel hb4)
  clear hb4
  go_wp2
  go_ret
  exact ⟨rfl, m4.out.b⟩
theorem u16_bd {n : Int} (h : (Lit.int .u16 n).wf = true) : 0 ≤ n ∧ n ≤ 65535 := by
  simp [Lit.wf, IntKind.min, IntKind.max, IntKind.signed, IntKind.bits] at h
  omega
theorem lawI_TurnQuarters (a : Int) (w : World) (h : (Lit.int .u16 a).wf = true) : Calls Try.prog 6 #[.int .u16 a] w fun e w' => e = .returned (.bool true) ∧ Below w.heap.size w w' := by
  obtain ⟨b, rfl⟩ := Int.eq_ofNat_of_zero_le (u16_bd h).1
  exact law_TurnQuarters b w (by have := u16_bd h; omega)
theorem lawI_TurnPoints (a : Int) (n : Int) (w : World) (h : (Lit.int .u16 a).wf = true) : Calls Try.prog 7 #[.int .u16 a, .int .i64 n] w fun e w' => e = .returned (.bool true) ∧ Below w.heap.size w w' := by
  obtain ⟨b, rfl⟩ := Int.eq_ofNat_of_zero_le (u16_bd h).1
  exact law_TurnPoints b n w (by have := u16_bd h; omega)
end Go.Proofs.Ytiibgblpbjdpaaa
