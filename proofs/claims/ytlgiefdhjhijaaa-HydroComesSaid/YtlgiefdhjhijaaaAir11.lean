/- An atmosphere of a law's own; the laws AirPressures, AirHeights, AirBack; walked. -/
import Derived.Test.YtlgiefdhjhijaaaAir10
import Derived.Deep.Cut
namespace Go.Proofs.Ytlgiefdhjhijaaa
open Go.ChangeShapes Go.WideShapes Go.ChangeAt Go.RowKit
set_option linter.unusedVariables false
set_option linter.unusedSimpArgs false
/-- The law's atmosphere stands in the first block behind w; what lay there is as it was. -/
structure AirW (w u : World) : Prop where
  r : AirR w.heap.size u
  b : Below w.heap.size w u
theorem AirW.step {w u u' : World} (h : AirW w u) (a : AirO w.heap.size 1 0 aS u') (k : Beside w.heap.size u u') : AirW w u' := ⟨.inr a, h.b.trans (k.below (Nat.le_refl _) h.b.size)⟩
theorem AirW.bel {w u u' : World} (h : AirW w u) (k : Below u.heap.size u u') : AirW w u' := ⟨h.r.bel k, h.b.trans (k.mono h.b.size)⟩
theorem AirW.drew {w u : World} (h : AirW w u) : AirW w u.drew := h.bel (Below.refl _ _).drew
/-- A row of steps beside it. -/
structure StC (w : World) (g off : Nat) (u : World) : Prop where
  ne : w.heap.size < g
  lt : g < u.heap.size
  c : ∀ i, i < 2101 → u.cell? ⟨g, off + i, none⟩ = some (.int .i64 (aS i))
theorem StC.beside {w u u' : World} {g off : Nat} (h : StC w g off u) (k : Beside w.heap.size u u') : StC w g off u' :=
  ⟨h.ne, Nat.lt_of_lt_of_le h.lt k.size, fun i hi => (World.cell?_of_block (a := ⟨g, off + i, none⟩) (k.block g h.lt (by have := h.ne; omega))).trans (h.c i hi)⟩
theorem StC.bel {w u u' : World} {g off : Nat} (h : StC w g off u) (k : Below u.heap.size u u') : StC w g off u' := h.beside (.of_below k)
theorem StC.drew {w u : World} {g off : Nat} (h : StC w g off u) : StC w g off u.drew := h.bel (Below.refl _ _).drew
theorem stc_of {w u0 u : World} {x : Value} {L : List Int} (h : w.heap.size < u0.heap.size) (hO : Ow u0.heap.size x L u) (hL : StL L) : ∃ g off cap, x = .slice (some ⟨g, off, none⟩) 2101 cap ∧ StC w g off u := by
  have l := hL.len
  rcases hO with ⟨_, e⟩ | ⟨g, off, cap, cur, rfl, hB, hg, hc, hs, hx⟩
  · rw [e] at l; cases l
  · refine ⟨g, off, cap, by rw [l], by omega, (by
      rcases Nat.lt_or_ge g u.heap.size with q | q
      · exact q
      · rw [Array.getElem?_eq_none q] at hg; cases hg), fun i hi => ?_⟩
    rw [cell_of_row u g (off + i) cur _ (0, 0) hg, hx i (by omega), hL.at' i hi]
theorem apressW (h : Int) (w u : World) (m : AirW w u) : Calls Try.prog 17 #[.pointer (some ⟨w.heap.size, 0, none⟩), .int .i64 h] u fun e w' => e = .returned (.int .i64 (prV h)) ∧ AirW w w' ∧ Beside w.heap.size u w' :=
  (apress _ h u m.r).mono (fun e w' q => ⟨q.1, m.step q.2.1 q.2.2, q.2.2⟩)
theorem aheightW (p : Int) (w u : World) (m : AirW w u) : Calls Try.prog 18 #[.pointer (some ⟨w.heap.size, 0, none⟩), .int .i64 p] u fun e w' => e = .returned (.int .i64 (heV p)) ∧ AirW w w' ∧ Beside w.heap.size u w' :=
  (aheight _ p u m.r).mono (fun e w' q => ⟨q.1, m.step q.2.1 q.2.2, q.2.2⟩)
theorem rstepsW (w u : World) (m : AirW w u) : Calls Try.prog 15 #[] u fun e w' => ∃ g off cap, e = .returned (.slice (some ⟨g, off, none⟩) 2101 cap) ∧ StC w g off w' ∧ AirW w w' :=
  (rsteps u).mono (fun e w' q => by
    obtain ⟨x, L, rfl, hO, hL, hb⟩ := q
    obtain ⟨g, off, cap, rfl, s⟩ := stc_of m.r.lt hO hL
    exact ⟨g, off, cap, rfl, s, m.bel hb⟩)
theorem astepsW (w u : World) (m : AirW w u) : Calls Try.prog 16 #[.pointer (some ⟨w.heap.size, 0, none⟩)] u fun e w' => ∃ g off cap, e = .returned (.slice (some ⟨g, off, none⟩) 2101 cap) ∧ StC w g off w' ∧ AirW w w' ∧ Beside w.heap.size u w' :=
  (asteps _ u m.r).mono (fun e w' q => by
    obtain ⟨x, L, rfl, hO, hL, hA, hb⟩ := q
    obtain ⟨g, off, cap, rfl, s⟩ := stc_of m.r.lt hO hL
    exact ⟨g, off, cap, rfl, s, m.step hA hb, hb⟩)
theorem rpressW (h : Int) (g off cap : Nat) (w u : World) (m : AirW w u) (s : StC w g off u) : Calls Try.prog 22 #[.slice (some ⟨g, off, none⟩) 2101 cap, .int .i64 h] u fun e w' => e = .returned (.int .i64 (prV h)) ∧ AirW w w' ∧ StC w g off w' :=
  (rpress g off cap h u s.c).mono (fun e w' q => ⟨q.1, m.bel q.2, s.bel q.2⟩)
theorem rheightW (p : Int) (g off cap : Nat) (w u : World) (m : AirW w u) (s : StC w g off u) : Calls Try.prog 23 #[.slice (some ⟨g, off, none⟩) 2101 cap, .int .i64 p] u fun e w' => e = .returned (.int .i64 (heV p)) ∧ AirW w w' ∧ StC w g off w' :=
  (rheight g off cap p u s.c).mono (fun e w' q => ⟨q.1, m.bel q.2, s.bel q.2⟩)
theorem air_newW (w : World) : ∃ (Z : Array Value) (V : World), (∀ u, (zeroValue 38).run Try.prog u = .ok (.agg Z) u) ∧ V = w.alloc (.cells Z 38) ∧ AirW w V := by
  obtain ⟨Z, hz, HN⟩ := air_new
  obtain ⟨hA, hb, _⟩ := HN w
  exact ⟨Z, _, hz, rfl, .inl ⟨_, hA⟩, hb⟩
set_option maxRecDepth 100000 in
set_option maxHeartbeats 8000000 in
theorem law_AirPressures (h : Int) (w : World) : Calls Try.prog 4 #[.int .i64 h] w fun e w' => e = .returned (.bool true) ∧ Below w.heap.size w w' := by
  obtain ⟨Z, V, hz, eV, mV⟩ := air_newW w
  replace eV := Lib.hid eV
  replace mV := Lib.hid mV
  have LV := Lib.hid (fun u => lives07 u)
  have TA := Lib.hid (fun u => atemp_any h u)
  have TR := Lib.hid (fun u => ratemp_any h u)
  have PP := Lib.hid (fun u m => apressW h w u m)
  have RS := Lib.hid (fun u m => rstepsW w u m)
  have RP := Lib.hid (fun g off cap u m s => rpressW h g off cap w u m s)
  generalize arT h = T at *
  generalize prV h = P at *
  go_enter Try.func4, Try.ntmps4
  go_wp2_with fail
  rw [← eV.out]
  refine (TA.out _).mono ?_
  rintro e w1 ⟨rfl, hb1⟩
  have m1 := Lib.hid (mV.out.bel hb1)
  clear hb1
  go_wp2_with fail
  refine (TR.out _).mono ?_
  rintro e w2 ⟨rfl, hb2⟩
  have m2 := Lib.hid (m1.out.bel hb2)
  clear hb2
  go_wp2_with fail
  refine (PP.out _ m2.out).mono ?_
  rintro e w3 ⟨rfl, m3, -⟩
  replace m3 := Lib.hid m3
  go_wp2_with fail
  refine (RS.out _ m3.out).mono ?_
  rintro e w4 ⟨g, off, cap, rfl, s4, m4⟩
  replace m4 := Lib.hid m4
  replace s4 := Lib.hid s4
  go_wp2_with fail
  refine (RP.out g off cap _ m4.out s4.out).mono ?_
  rintro e w5 ⟨rfl, m5, -⟩
  replace m5 := Lib.hid m5
  go_wp2_with fail
  refine (LV.out _).mono ?_
  rintro e w20 ⟨rfl, hb20⟩
  have m20 := Lib.hid (m5.out.bel hb20)
  clear hb20
  go_wp2
  go_ret
  exact ⟨rfl, m20.out.b⟩
set_option maxRecDepth 100000 in
set_option maxHeartbeats 8000000 in
theorem law_AirHeights (p : Int) (w : World) : Calls Try.prog 5 #[.int .i64 p] w fun e w' => e = .returned (.bool true) ∧ Below w.heap.size w w' := by
  obtain ⟨Z, V, hz, eV, mV⟩ := air_newW w
  replace eV := Lib.hid eV
  replace mV := Lib.hid mV
  have LV := Lib.hid (fun u => lives07 u)
  have PP := Lib.hid (fun u m => aheightW p w u m)
  have RS := Lib.hid (fun u m => rstepsW w u m)
  have RP := Lib.hid (fun g off cap u m s => rheightW p g off cap w u m s)
  generalize heV p = P at *
  go_enter Try.func5, Try.ntmps5
  go_wp2_with fail
  rw [← eV.out]
  refine (PP.out _ mV.out).mono ?_
  rintro e w3 ⟨rfl, m3, -⟩
  replace m3 := Lib.hid m3
  go_wp2_with fail
  refine (RS.out _ m3.out).mono ?_
  rintro e w4 ⟨g, off, cap, rfl, s4, m4⟩
  replace m4 := Lib.hid m4
  replace s4 := Lib.hid s4
  go_wp2_with fail
  refine (RP.out g off cap _ m4.out s4.out).mono ?_
  rintro e w5 ⟨rfl, m5, -⟩
  replace m5 := Lib.hid m5
  go_wp2_with fail
  refine (LV.out _).mono ?_
  rintro e w20 ⟨rfl, hb20⟩
  have m20 := Lib.hid (m5.out.bel hb20)
  clear hb20
  go_wp2
  go_ret
  exact ⟨rfl, m20.out.b⟩
set_option maxRecDepth 100000 in
set_option maxHeartbeats 8000000 in
theorem law_AirBack (h p : Int) (w : World) : Calls Try.prog 7 #[.int .i64 h, .int .i64 p] w fun e w' => e = .returned (.bool true) ∧ Below w.heap.size w w' := by
  obtain ⟨Z, V, hz, eV, mV⟩ := air_newW w
  replace eV := Lib.hid eV
  replace mV := Lib.hid mV
  have LV := Lib.hid (fun u => lives07 u)
  have PB := fun u m => apressW (-100000) w u m
  have PT := fun u m => apressW 2000000 w u m
  have eB : prV (-100000) = aS 0 := by rw [prV_of (k := 0) (r := 0) (by omega) (by omega) (by omega) (by omega) (by omega)]; simp
  have eA : prV 2000000 = aS 2100 := by rw [prV_of (k := 2100) (r := 0) (by omega) (by omega) (by omega) (by omega) (by omega)]; simp
  rw [eB] at PB
  rw [eA] at PT
  have HP := Lib.hid (fun u m => aheightW p w u m)
  have PY := Lib.hid (fun u m => apressW (heV p) w u m)
  have BK := Lib.hid (fun (a : aS 2100 ≤ p) (b : p ≤ aS 0) => pr_he a b)
  have bA := aS_bd 2100 (by omega)
  have bB := aS_bd 0 (by omega)
  have bY := prV_bd (heV p)
  have HK := Lib.hid (fun (a : -100000 ≤ h) (b : h ≤ 2000000) => he_pr a b)
  have PH := Lib.hid (fun u m => apressW h w u m)
  have HH := Lib.hid (fun u m => aheightW (prV h) w u m)
  have bX := heV_bd (prV h)
  generalize heV (prV h) = X at *
  generalize prV (heV p) = Y at *
  generalize prV h = P at *
  generalize heV p = H at *
  generalize aS 2100 = A at *
  generalize aS 0 = B at *
  replace PB := Lib.hid PB
  replace PT := Lib.hid PT
  clear eA eB
  rcases (show h < -100000 ∨ (-100000 ≤ h ∧ 2000000 < h) ∨ (-100000 ≤ h ∧ h ≤ 2000000) by omega) with k | ⟨k, k2⟩ | ⟨k, k2⟩
  · clear HK PH HH bX
    go_enter Try.func7, Try.ntmps7
    go_upto_region 6 with (fail)
    rw [← eV.out]
    rcases (show B < p ∨ (p ≤ B ∧ p < A) ∨ (p ≤ B ∧ A ≤ p) by omega) with g | ⟨g, g2⟩ | ⟨g, g2⟩
    · skip
      go_wp2_with fail
      refine (PB.out _ mV.out).mono ?_
      rintro e w10 ⟨rfl, m10, -⟩
      replace m10 := Lib.hid m10
      go_wp2_with fail
      refine (LV.out _).mono ?_
      rintro e w20 ⟨rfl, hb20⟩
      have m20 := Lib.hid (m10.out.bel hb20)
      clear hb20
      go_wp2
      go_ret
      exact ⟨rfl, m20.out.b⟩
    · skip
      go_wp2_with fail
      refine (PB.out _ mV.out).mono ?_
      rintro e w10 ⟨rfl, m10, -⟩
      replace m10 := Lib.hid m10
      go_wp2_with fail
      refine (PT.out _ m10.out).mono ?_
      rintro e w11 ⟨rfl, m11, -⟩
      replace m11 := Lib.hid m11
      go_wp2_with fail
      refine (LV.out _).mono ?_
      rintro e w20 ⟨rfl, hb20⟩
      have m20 := Lib.hid (m11.out.bel hb20)
      clear hb20
      go_wp2
      go_ret
      exact ⟨rfl, m20.out.b⟩
    · skip
      obtain ⟨q1, q2⟩ := BK.out g2 g
      have z2 : IntKind.i64.wrap (Y - p) = Y - p := by rw [IntKind.wrap_i64]; omega
      clear BK
      go_wp2_with fail
      refine (PB.out _ mV.out).mono ?_
      rintro e w10 ⟨rfl, m10, -⟩
      replace m10 := Lib.hid m10
      go_wp2_with fail
      refine (PT.out _ m10.out).mono ?_
      rintro e w11 ⟨rfl, m11, -⟩
      replace m11 := Lib.hid m11
      go_wp2_with fail
      refine (HP.out _ m11.out).mono ?_
      rintro e w12 ⟨rfl, m12, -⟩
      replace m12 := Lib.hid m12
      go_wp2_with fail
      refine (PY.out _ m12.out).mono ?_
      rintro e w13 ⟨rfl, m13, -⟩
      replace m13 := Lib.hid m13
      go_wp2_with fail
      refine (LV.out _).mono ?_
      rintro e w20 ⟨rfl, hb20⟩
      have m20 := Lib.hid (m13.out.bel hb20)
      clear hb20
      go_wp2
      go_ret
      exact ⟨rfl, m20.out.b⟩
  · clear HK PH HH bX
    go_enter Try.func7, Try.ntmps7
    go_upto_region 6 with (fail)
    rw [← eV.out]
    rcases (show B < p ∨ (p ≤ B ∧ p < A) ∨ (p ≤ B ∧ A ≤ p) by omega) with g | ⟨g, g2⟩ | ⟨g, g2⟩
    · skip
      go_wp2_with fail
      refine (PB.out _ mV.out).mono ?_
      rintro e w10 ⟨rfl, m10, -⟩
      replace m10 := Lib.hid m10
      go_wp2_with fail
      refine (LV.out _).mono ?_
      rintro e w20 ⟨rfl, hb20⟩
      have m20 := Lib.hid (m10.out.bel hb20)
      clear hb20
      go_wp2
      go_ret
      exact ⟨rfl, m20.out.b⟩
    · skip
      go_wp2_with fail
      refine (PB.out _ mV.out).mono ?_
      rintro e w10 ⟨rfl, m10, -⟩
      replace m10 := Lib.hid m10
      go_wp2_with fail
      refine (PT.out _ m10.out).mono ?_
      rintro e w11 ⟨rfl, m11, -⟩
      replace m11 := Lib.hid m11
      go_wp2_with fail
      refine (LV.out _).mono ?_
      rintro e w20 ⟨rfl, hb20⟩
      have m20 := Lib.hid (m11.out.bel hb20)
      clear hb20
      go_wp2
      go_ret
      exact ⟨rfl, m20.out.b⟩
    · skip
      obtain ⟨q1, q2⟩ := BK.out g2 g
      have z2 : IntKind.i64.wrap (Y - p) = Y - p := by rw [IntKind.wrap_i64]; omega
      clear BK
      go_wp2_with fail
      refine (PB.out _ mV.out).mono ?_
      rintro e w10 ⟨rfl, m10, -⟩
      replace m10 := Lib.hid m10
      go_wp2_with fail
      refine (PT.out _ m10.out).mono ?_
      rintro e w11 ⟨rfl, m11, -⟩
      replace m11 := Lib.hid m11
      go_wp2_with fail
      refine (HP.out _ m11.out).mono ?_
      rintro e w12 ⟨rfl, m12, -⟩
      replace m12 := Lib.hid m12
      go_wp2_with fail
      refine (PY.out _ m12.out).mono ?_
      rintro e w13 ⟨rfl, m13, -⟩
      replace m13 := Lib.hid m13
      go_wp2_with fail
      refine (LV.out _).mono ?_
      rintro e w20 ⟨rfl, hb20⟩
      have m20 := Lib.hid (m13.out.bel hb20)
      clear hb20
      go_wp2
      go_ret
      exact ⟨rfl, m20.out.b⟩
  · obtain ⟨x1, x2⟩ := HK.out k k2
    have z1 : IntKind.i64.wrap (X - h) = X - h := by rw [IntKind.wrap_i64]; omega
    clear HK
    go_enter Try.func7, Try.ntmps7
    go_wp2_with fail
    rw [← eV.out]
    refine (PH.out _ mV.out).mono ?_
    rintro e w1 ⟨rfl, m1, -⟩
    replace m1 := Lib.hid m1
    go_wp2_with fail
    refine (HH.out _ m1.out).mono ?_
    rintro e w2 ⟨rfl, m2, -⟩
    replace m2 := Lib.hid m2
    go_upto_region 6 with (fail)
    rcases (show B < p ∨ (p ≤ B ∧ p < A) ∨ (p ≤ B ∧ A ≤ p) by omega) with g | ⟨g, g2⟩ | ⟨g, g2⟩
    · skip
      go_wp2_with fail
      refine (PB.out _ m2.out).mono ?_
      rintro e w10 ⟨rfl, m10, -⟩
      replace m10 := Lib.hid m10
      go_wp2_with fail
      refine (LV.out _).mono ?_
      rintro e w20 ⟨rfl, hb20⟩
      have m20 := Lib.hid (m10.out.bel hb20)
      clear hb20
      go_wp2
      go_ret
      exact ⟨rfl, m20.out.b⟩
    · skip
      go_wp2_with fail
      refine (PB.out _ m2.out).mono ?_
      rintro e w10 ⟨rfl, m10, -⟩
      replace m10 := Lib.hid m10
      go_wp2_with fail
      refine (PT.out _ m10.out).mono ?_
      rintro e w11 ⟨rfl, m11, -⟩
      replace m11 := Lib.hid m11
      go_wp2_with fail
      refine (LV.out _).mono ?_
      rintro e w20 ⟨rfl, hb20⟩
      have m20 := Lib.hid (m11.out.bel hb20)
      clear hb20
      go_wp2
      go_ret
      exact ⟨rfl, m20.out.b⟩
    · skip
      obtain ⟨q1, q2⟩ := BK.out g2 g
      have z2 : IntKind.i64.wrap (Y - p) = Y - p := by rw [IntKind.wrap_i64]; omega
      clear BK
      go_wp2_with fail
      refine (PB.out _ m2.out).mono ?_
      rintro e w10 ⟨rfl, m10, -⟩
      replace m10 := Lib.hid m10
      go_wp2_with fail
      refine (PT.out _ m10.out).mono ?_
      rintro e w11 ⟨rfl, m11, -⟩
      replace m11 := Lib.hid m11
      go_wp2_with fail
      refine (HP.out _ m11.out).mono ?_
      rintro e w12 ⟨rfl, m12, -⟩
      replace m12 := Lib.hid m12
      go_wp2_with fail
      refine (PY.out _ m12.out).mono ?_
      rintro e w13 ⟨rfl, m13, -⟩
      replace m13 := Lib.hid m13
      go_wp2_with fail
      refine (LV.out _).mono ?_
      rintro e w20 ⟨rfl, hb20⟩
      have m20 := Lib.hid (m13.out.bel hb20)
      clear hb20
      go_wp2
      go_ret
      exact ⟨rfl, m20.out.b⟩
end Go.Proofs.Ytlgiefdhjhijaaa
