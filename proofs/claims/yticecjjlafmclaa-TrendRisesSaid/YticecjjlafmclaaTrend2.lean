/- A trend's slope and middle; the chapter's example; the law TrendNew; walked. -/
import Derived.Test.YticecjjlafmclaaTrend1
namespace Go.Proofs.Yticecjjlafmclaa
open Go.ChangeShapes Go.WideShapes Go.ChangeAt Go.RowKit
set_option linter.unusedVariables false
set_option linter.unusedSimpArgs false
set_option maxRecDepth 100000 in
set_option maxHeartbeats 8000000 in
theorem trfloor (a b : Int) (w : World) (hb : 0 < b) (h1 : -4611686018427387904 ≤ a) (h2 : a ≤ 4611686018427387904) : Calls Try.prog 40 #[.int .i64 a, .int .i64 b] w fun e w' => e = .returned (.int .i64 (a / b)) ∧ w = w' := by
  have hq := tdiv_le a b _ h1 h2
  have HF := Lib.hid (floor_td a b hb)
  have hne : ¬ b = 0 := by omega
  have hm1 : ¬ b = -1 := by omega
  generalize a / b = q at HF ⊢
  go_enter Try.func40, Try.ntmps40
  go_wp2
  all_goals
    go_ret
    refine ⟨ret_int ?_, rfl⟩
    have := HF.out
    omega
/-- The slope and the middle of these values. -/
def trS (L : List Int) : Int := (12000 * tsX L L.length - 6000 * ((L.length : Int) - 1) * tsY L L.length) / ((L.length : Int) * ((L.length : Int) * (L.length : Int) - 1))
def trM (L : List Int) : Int := tsY L L.length / (L.length : Int)
set_option maxRecDepth 100000 in
set_option maxHeartbeats 8000000 in
theorem trslope {B b : Nat} {sz : Int} {L : List Int} (w : World) (hT : Tr B b sz L w) (h2 : 2 ≤ L.length) : Calls Try.prog 19 #[.pointer (some ⟨b, 0, none⟩)] w fun e w' => e = .returned (.tuple #[.int .i64 (trS L), .bool true]) ∧ w = w' := by
  have hlen := hT.len
  have s2 := hT.s2
  have TB := ts_bd hT.bd (by omega) L.length (Nat.le_refl _)
  have LN := trlen w hT
  have SM := trsums w hT
  unfold trS
  have n2 : 2 ≤ (L.length : Int) := by omega
  have n64 : (L.length : Int) ≤ 64 := by omega
  clear hlen h2 hT
  generalize tsY L L.length = y at *
  generalize tsX L L.length = q at *
  generalize (L.length : Int) = n at *
  replace LN := Lib.hid LN
  replace SM := Lib.hid SM
  have y1 : -6400000000 ≤ y ∧ y ≤ 6400000000 := by omega
  have q1 : -409600000000 ≤ q ∧ q ≤ 409600000000 := by omega
  have p1 : 6000 * (n - 1) * y ≤ 378000 * 6400000000 ∧ -(378000 * 6400000000) ≤ 6000 * (n - 1) * y := by
    have a0 : (0 : Int) ≤ 6000 * (n - 1) := by omega
    have a1 : 6000 * (n - 1) ≤ 378000 := by omega
    have u1 := Int.mul_le_mul_of_nonneg_left y1.2 a0
    have u2 := Int.mul_le_mul_of_nonneg_left y1.1 a0
    omega
  have p2 : 4 ≤ n * n ∧ n * n ≤ 4096 := by
    have u1 := Int.mul_le_mul n2 n2 (by omega) (by omega)
    have u2 := Int.mul_le_mul n64 n64 (by omega) (by omega)
    omega
  obtain ⟨N, eN⟩ : ∃ N, N = n * n := ⟨_, rfl⟩
  rw [← eN] at p2 ⊢
  have p3 : 0 < n * (N - 1) ∧ n * (N - 1) ≤ 64 * 4095 := by
    have u1 := Int.mul_le_mul n2 (show (3 : Int) ≤ N - 1 by omega) (by omega) (by omega)
    have u2 := Int.mul_le_mul n64 (show N - 1 ≤ (4095 : Int) by omega) (by omega) (by omega)
    omega
  obtain ⟨D, eD⟩ : ∃ D, D = n * (N - 1) := ⟨_, rfl⟩
  obtain ⟨P, eP⟩ : ∃ P, P = 6000 * (n - 1) * y := ⟨_, rfl⟩
  obtain ⟨Z, eZ⟩ : ∃ Z, Z = 12000 * q - P := ⟨_, rfl⟩
  rw [← eD] at p3
  rw [← eP] at p1
  rw [← eD, ← eP, ← eZ]
  have FL := Lib.hid (fun u => trfloor Z D u p3.1 (by omega) (by omega))
  have m1 : IntKind.i64.wrap (n * n) = N := by rw [← eN, IntKind.wrap_i64]; omega
  have m2 : IntKind.i64.wrap (N - 1) = N - 1 := by rw [IntKind.wrap_i64]; omega
  have m3 : IntKind.i64.wrap (n * (N - 1)) = D := by rw [← eD, IntKind.wrap_i64]; omega
  have m4 : IntKind.i64.wrap (6000 * (n - 1)) = 6000 * (n - 1) := by rw [IntKind.wrap_i64]; omega
  have m5 : IntKind.i64.wrap (6000 * (n - 1) * y) = P := by rw [← eP, IntKind.wrap_i64]; omega
  have m6 : IntKind.i64.wrap (12000 * q) = 12000 * q := by rw [IntKind.wrap_i64]; omega
  have m7 : IntKind.i64.wrap (12000 * q - P) = Z := by rw [← eZ, IntKind.wrap_i64]; omega
  have m8 : IntKind.i64.wrap (n - 1) = n - 1 := by rw [IntKind.wrap_i64]; omega
  generalize Z / D = R at *
  replace eD := Lib.hid eD
  replace eN := Lib.hid eN
  replace eP := Lib.hid eP
  replace eZ := Lib.hid eZ
  replace p1 := Lib.hid p1
  replace p2 := Lib.hid p2
  replace p3 := Lib.hid p3
  replace TB := Lib.hid TB
  replace s2 := Lib.hid s2
  go_enter Try.func19, Try.ntmps19
  go_wp2_with fail
  refine LN.out.mono ?_
  rintro e w1 ⟨rfl, rfl⟩
  go_wp2_with fail
  refine SM.out.mono ?_
  rintro e w2 ⟨rfl, rfl⟩
  go_wp2_with fail
  refine (FL.out _).mono ?_
  rintro e w3 ⟨rfl, rfl⟩
  go_wp2
  go_ret2
  exact ⟨rfl, rfl⟩
set_option maxRecDepth 100000 in
set_option maxHeartbeats 8000000 in
theorem trmiddle {B b : Nat} {sz : Int} {L : List Int} (w : World) (hT : Tr B b sz L w) (h2 : 2 ≤ L.length) : Calls Try.prog 20 #[.pointer (some ⟨b, 0, none⟩)] w fun e w' => e = .returned (.tuple #[.int .i64 (trM L), .bool true]) ∧ w = w' := by
  have hlen := hT.len
  have s2 := hT.s2
  have TB := ts_bd hT.bd (by omega) L.length (Nat.le_refl _)
  have LN := Lib.hid (trlen w hT)
  have SM := Lib.hid (trsums w hT)
  unfold trM
  have n2 : 2 ≤ (L.length : Int) := by omega
  have n64 : (L.length : Int) ≤ 64 := by omega
  clear hlen h2 hT
  have LN := LN.out
  have SM := SM.out
  generalize tsY L L.length = y at *
  generalize tsX L L.length = q at *
  generalize (L.length : Int) = n at *
  replace LN := Lib.hid LN
  replace SM := Lib.hid SM
  have FL := Lib.hid (fun u => trfloor y n u (by omega) (by omega) (by omega))
  generalize y / n = R at *
  replace TB := Lib.hid TB
  go_enter Try.func20, Try.ntmps20
  go_wp2_with fail
  refine LN.out.mono ?_
  rintro e w1 ⟨rfl, rfl⟩
  go_wp2_with fail
  refine SM.out.mono ?_
  rintro e w2 ⟨rfl, rfl⟩
  go_wp2_with fail
  refine (FL.out _).mono ?_
  rintro e w3 ⟨rfl, rfl⟩
  go_wp2
  go_ret2
  exact ⟨rfl, rfl⟩
set_option maxRecDepth 100000 in
set_option maxHeartbeats 8000000 in
theorem lives44 (w : World) : Calls Try.prog 25 #[] w fun e w' => e = .returned (.bool true) ∧ Below w.heap.size w w' := by
  have NW := Lib.hid (fun u => trnew_ok 5 u (by omega))
  have P0 := Lib.hid (fun (B b : Nat) u (m : Tr B b 5 [] u) => trput 0 u m (by decide))
  have P1 := Lib.hid (fun (B b : Nat) u (m : Tr B b 5 [0] u) => trput 10 u m (by decide))
  have P2 := Lib.hid (fun (B b : Nat) u (m : Tr B b 5 [0, 10] u) => trput 20 u m (by decide))
  have SL := Lib.hid (fun (B b : Nat) u (m : Tr B b 5 [0, 10, 20] u) => trslope u m (by decide))
  go_enter Try.func25, Try.ntmps25
  go_wp2_with fail
  refine (NW.out _).mono ?_
  rintro e w1 ⟨b, hb, rfl, m1, bel1⟩
  go_wp2_with fail
  refine (P0.out _ _ _ m1).mono ?_
  rintro e w2 ⟨rfl, m2, bs2⟩
  have bel2 := bel1.trans bs2
  rw [show ([] : List Int) ++ [trH 0] = [0] from by decide] at m2
  clear m1 bel1 bs2
  go_wp2_with fail
  refine (P1.out _ _ _ m2).mono ?_
  rintro e w3 ⟨rfl, m3, bs3⟩
  have bel3 := bel2.trans bs3
  rw [show ([0] : List Int) ++ [trH 10] = [0, 10] from by decide] at m3
  clear m2 bel2 bs3
  go_wp2_with fail
  refine (P2.out _ _ _ m3).mono ?_
  rintro e w4 ⟨rfl, m4, bs4⟩
  have bel4 := Lib.hid (bel3.trans bs4)
  rw [show ([0, 10] : List Int) ++ [trH 20] = [0, 10, 20] from by decide] at m4
  clear m3 bel3 bs4
  go_wp2_with fail
  refine (SL.out _ _ _ m4).mono ?_
  rw [show trS [0, 10, 20] = 10000 from by decide]
  rintro e w5 ⟨rfl, rfl⟩
  clear m4
  go_wp2
  go_ret
  exact ⟨rfl, bel4.out⟩
set_option maxRecDepth 100000 in
set_option maxHeartbeats 8000000 in
theorem law_TrendNew (sz h : Int) (w : World) : Calls Try.prog 4 #[.int .i64 sz, .int .i64 h] w fun e w' => e = .returned (.bool true) ∧ Below w.heap.size w w' := by
  have LV := Lib.hid (fun u => lives44 u)
  have PN := Lib.hid (fun u => trput_nil h u)
  have RN := Lib.hid (fun u => trreset_nil u)
  have SN := Lib.hid (fun u => trslope_few (.pointer none) u (few_nil u))
  have MN := Lib.hid (fun u => trmiddle_few (.pointer none) u (few_nil u))
  have AN := Lib.hid (fun u => trat_few h (.pointer none) u (few_nil u))
  have WN := Lib.hid (fun u => trworst_few (.pointer none) u (few_nil u))
  have ON := Lib.hid (fun u => trout_few h (.pointer none) u (few_nil u))
  have LN := Lib.hid (fun u => trlen_nil u)
  rcases (show sz < 2 ∨ (2 ≤ sz ∧ 64 < sz) ∨ (2 ≤ sz ∧ sz ≤ 64) by omega) with g | ⟨g, g2⟩ | ⟨g, g2⟩
  · have NW := Lib.hid (fun u => trnew_no sz u (by omega))
    go_enter Try.func4, Try.ntmps4
    go_wp2_with fail
    refine (NW.out _).mono ?_
    rintro e w1 ⟨rfl, rfl⟩
    have bel1 := Lib.hid (Below.refl w.heap.size w)
    go_wp2_with fail
    refine (PN.out _).mono ?_
    rintro e w91 ⟨rfl, rfl⟩
    go_wp2_with fail
    refine (RN.out _).mono ?_
    rintro e w92 ⟨rfl, rfl⟩
    go_wp2_with fail
    refine (SN.out _).mono ?_
    rintro e w93 ⟨rfl, rfl⟩
    go_wp2_with fail
    refine (MN.out _).mono ?_
    rintro e w94 ⟨rfl, rfl⟩
    go_wp2_with fail
    refine (AN.out _).mono ?_
    rintro e w2 ⟨rfl, hb2⟩
    have bel2 := Lib.hid (bel1.out.trans (hb2.mono bel1.out.size))
    clear hb2
    go_wp2_with fail
    refine (WN.out _).mono ?_
    rintro e w3 ⟨rfl, hb3⟩
    have bel3 := Lib.hid (bel2.out.trans (hb3.mono bel2.out.size))
    clear hb3
    go_wp2_with fail
    refine (LN.out _).mono ?_
    rintro e w95 ⟨rfl, rfl⟩
    go_wp2_with fail
    refine (ON.out _).mono ?_
    rintro e w4 ⟨rfl, hb4⟩
    have bel4 := Lib.hid (bel3.out.trans (hb4.mono bel3.out.size))
    clear hb4
    go_wp2_with fail
    refine (LV.out _).mono ?_
    rintro e w5 ⟨rfl, hb5⟩
    have bel5 := Lib.hid (bel4.out.trans (hb5.mono bel4.out.size))
    clear hb5
    go_wp2
    go_ret
    exact ⟨rfl, bel5.out⟩
  · have NW := Lib.hid (fun u => trnew_no sz u (by omega))
    go_enter Try.func4, Try.ntmps4
    go_wp2_with fail
    refine (NW.out _).mono ?_
    rintro e w1 ⟨rfl, rfl⟩
    have bel1 := Lib.hid (Below.refl w.heap.size w)
    go_wp2_with fail
    refine (PN.out _).mono ?_
    rintro e w91 ⟨rfl, rfl⟩
    go_wp2_with fail
    refine (RN.out _).mono ?_
    rintro e w92 ⟨rfl, rfl⟩
    go_wp2_with fail
    refine (SN.out _).mono ?_
    rintro e w93 ⟨rfl, rfl⟩
    go_wp2_with fail
    refine (MN.out _).mono ?_
    rintro e w94 ⟨rfl, rfl⟩
    go_wp2_with fail
    refine (AN.out _).mono ?_
    rintro e w2 ⟨rfl, hb2⟩
    have bel2 := Lib.hid (bel1.out.trans (hb2.mono bel1.out.size))
    clear hb2
    go_wp2_with fail
    refine (WN.out _).mono ?_
    rintro e w3 ⟨rfl, hb3⟩
    have bel3 := Lib.hid (bel2.out.trans (hb3.mono bel2.out.size))
    clear hb3
    go_wp2_with fail
    refine (LN.out _).mono ?_
    rintro e w95 ⟨rfl, rfl⟩
    go_wp2_with fail
    refine (ON.out _).mono ?_
    rintro e w4 ⟨rfl, hb4⟩
    have bel4 := Lib.hid (bel3.out.trans (hb4.mono bel3.out.size))
    clear hb4
    go_wp2_with fail
    refine (LV.out _).mono ?_
    rintro e w5 ⟨rfl, hb5⟩
    have bel5 := Lib.hid (bel4.out.trans (hb5.mono bel4.out.size))
    clear hb5
    go_wp2
    go_ret
    exact ⟨rfl, bel5.out⟩
  · have NW := Lib.hid (fun u => trnew_ok sz u ⟨g, g2⟩)
    have PT := Lib.hid (fun (B b : Nat) u (m : Tr B b sz [] u) => trput h u m (by show (0 : Int) + 1 ≤ sz; omega))
    rw [show ([] : List Int) ++ [trH h] = [trH h] from rfl] at PT
    generalize trH h = c at *
    have LT := Lib.hid (fun (B b : Nat) u (m : Tr B b sz [c] u) => trlen u m)
    have ST := Lib.hid (fun (B b : Nat) u (m : Tr B b sz [c] u) => trslope_few (.pointer (some ⟨b, 0, none⟩)) u (few_tr m (by show 1 < 2; omega)))
    have MT := Lib.hid (fun (B b : Nat) u (m : Tr B b sz [c] u) => trmiddle_few (.pointer (some ⟨b, 0, none⟩)) u (few_tr m (by show 1 < 2; omega)))
    have AT := Lib.hid (fun (B b : Nat) u (m : Tr B b sz [c] u) => trat_few h (.pointer (some ⟨b, 0, none⟩)) u (few_tr m (by show 1 < 2; omega)))
    have WT := Lib.hid (fun (B b : Nat) u (m : Tr B b sz [c] u) => trworst_few (.pointer (some ⟨b, 0, none⟩)) u (few_tr m (by show 1 < 2; omega)))
    have OT := Lib.hid (fun (B b : Nat) u (m : Tr B b sz [c] u) => trout_few (-1) (.pointer (some ⟨b, 0, none⟩)) u (few_tr m (by show 1 < 2; omega)))
    go_enter Try.func4, Try.ntmps4
    go_wp2_with fail
    refine (NW.out _).mono ?_
    rintro e w1 ⟨b, hb, rfl, m1, bel1⟩
    replace bel1 := Lib.hid bel1
    replace m1 := Lib.hid m1
    go_wp2_with fail
    refine (PN.out _).mono ?_
    rintro e w91 ⟨rfl, rfl⟩
    go_wp2_with fail
    refine (RN.out _).mono ?_
    rintro e w92 ⟨rfl, rfl⟩
    go_wp2_with fail
    refine (SN.out _).mono ?_
    rintro e w93 ⟨rfl, rfl⟩
    go_wp2_with fail
    refine (MN.out _).mono ?_
    rintro e w94 ⟨rfl, rfl⟩
    go_wp2_with fail
    refine (AN.out _).mono ?_
    rintro e w2 ⟨rfl, hb2⟩
    have bel2 := Lib.hid (bel1.out.trans (hb2.mono bel1.out.size))
    have m2 := Lib.hid (m1.out.bel hb2)
    clear m1
    clear hb2
    go_wp2_with fail
    refine (WN.out _).mono ?_
    rintro e w3 ⟨rfl, hb3⟩
    have bel3 := Lib.hid (bel2.out.trans (hb3.mono bel2.out.size))
    have m3 := Lib.hid (m2.out.bel hb3)
    clear m2
    clear hb3
    go_wp2_with fail
    refine (LN.out _).mono ?_
    rintro e w95 ⟨rfl, rfl⟩
    go_wp2_with fail
    refine (ON.out _).mono ?_
    rintro e w4 ⟨rfl, hb4⟩
    have bel4 := Lib.hid (bel3.out.trans (hb4.mono bel3.out.size))
    have m4 := Lib.hid (m3.out.bel hb4)
    clear m3
    clear hb4
    go_wp2_with fail
    refine (PT.out _ _ _ m4.out).mono ?_
    rintro e w5 ⟨rfl, m5, hb5⟩
    have bel5 := Lib.hid (bel4.out.trans hb5)
    replace m5 := Lib.hid m5
    clear m4 bel4 hb5
    go_wp2_with fail
    refine (ST.out _ _ _ m5.out).mono ?_
    rintro e w96 ⟨rfl, rfl⟩
    go_wp2_with fail
    refine (MT.out _ _ _ m5.out).mono ?_
    rintro e w97 ⟨rfl, rfl⟩
    go_wp2_with fail
    refine (AT.out _ _ _ m5.out).mono ?_
    rintro e w6 ⟨rfl, hb6⟩
    have bel6 := Lib.hid (bel5.out.trans (hb6.mono bel5.out.size))
    have m6 := Lib.hid (m5.out.bel hb6)
    clear m5
    clear hb6
    go_wp2_with fail
    refine (WT.out _ _ _ m6.out).mono ?_
    rintro e w7 ⟨rfl, hb7⟩
    have bel7 := Lib.hid (bel6.out.trans (hb7.mono bel6.out.size))
    have m7 := Lib.hid (m6.out.bel hb7)
    clear m6
    clear hb7
    go_wp2_with fail
    refine (LT.out _ _ _ m7.out).mono ?_
    rintro e w98 ⟨rfl, rfl⟩
    go_wp2_with fail
    refine (OT.out _ _ _ m7.out).mono ?_
    rintro e w8 ⟨rfl, hb8⟩
    have bel8 := Lib.hid (bel7.out.trans (hb8.mono bel7.out.size))
    have m8 := Lib.hid (m7.out.bel hb8)
    clear m7
    clear hb8
    go_wp2_with fail
    refine (LV.out _).mono ?_
    rintro e w9 ⟨rfl, hb9⟩
    have bel9 := Lib.hid (bel8.out.trans (hb9.mono bel8.out.size))
    clear hb9
    go_wp2
    go_ret
    exact ⟨rfl, bel9.out⟩
end Go.Proofs.Yticecjjlafmclaa
