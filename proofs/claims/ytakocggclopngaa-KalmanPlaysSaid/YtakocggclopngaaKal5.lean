/- The estimator's Update; the chapter's example; walked. -/
import Derived.Test.YtakocggclopngaaKal4
namespace Go.Proofs.Ytakocggclopngaa
open Go.ChangeShapes Go.WideShapes Go.ChangeAt Go.RowKit
set_option linter.unusedVariables false
set_option linter.unusedSimpArgs false
def kuR (H : Nat → Int) (z n : Int) : Bool := decide (1 ≤ n ∧ n ≤ 68719476736) && kIn H (-16777216) 16777216 && decide (-68719476736 ≤ z ∧ z ≤ 68719476736)
def kOff (X H : Nat → Int) (z : Int) : Int := z - dtI H X
def kHi (g o : Int) : Bool := decide (g < o ∨ g < -o)
theorem ku_box (w : World) (H : Nat → Int) (z n : Int) : ∃ V, V = (w.alloc (.cells #[.int .i64 (H 0), .int .i64 (H 1), .int .i64 (H 2), .int .i64 z, .int .i64 n] 86)) ∧ Below w.heap.size w V ∧ Held w.heap.size [.int .i64 (H 0), .int .i64 (H 1), .int .i64 (H 2), .int .i64 z, .int .i64 n] V ∧ V.heap.size = w.heap.size + 1 := by
  refine ⟨_, rfl, (by repeat (first | exact Below.refl _ _ | assumption | apply Below.drew | apply below_drewN | (refine Below.alloc ?_ (by first | exact Nat.le_refl _ | omega | (simp <;> omega)) _) | (refine Below.setCell ?_ (by first | exact Nat.le_refl _ | omega | (simp <;> omega)) _))), ?_, by simp⟩
  · have := (Held.new w [.int .i64 (H 0), .int .i64 (H 1), .int .i64 (H 2), .int .i64 z, .int .i64 n] 86)
    simpa using this
set_option maxRecDepth 100000 in
set_option maxHeartbeats 8000000 in
theorem kupd_nil (H : Nat → Int) (z n : Int) (w : World) : Calls Try.prog 50 #[.pointer none, .agg #[.int .i64 (H 0), .int .i64 (H 1), .int .i64 (H 2), .int .i64 z, .int .i64 n]] w fun e w' => e = .returned (.int .i64 1) ∧ Below w.heap.size w w' := by
  go_enter Try.func50, Try.ntmps50
  go_wp2
  go_ret
  exact ⟨rfl, (by repeat (first | exact Below.refl _ _ | assumption | apply Below.drew | apply below_drewN | (refine Below.alloc ?_ (by first | exact Nat.le_refl _ | omega | (simp <;> omega)) _) | (refine Below.setCell ?_ (by first | exact Nat.le_refl _ | omega | (simp <;> omega)) _)))⟩
set_option maxRecDepth 100000 in
set_option maxHeartbeats 8000000 in
theorem kupd_r0 (ob : Nat) (H : Nat → Int) (z n : Int) (h0 : decide (1 ≤ n ∧ n ≤ 68719476736) = false) (w : World) : Calls Try.prog 50 #[.pointer (some ⟨ob, 0, none⟩), .agg #[.int .i64 (H 0), .int .i64 (H 1), .int .i64 (H 2), .int .i64 z, .int .i64 n]] w fun e w' => e = .returned (.int .i64 2) ∧ Below w.heap.size w w' := by
  obtain ⟨V, eV, hb0, hH, hz⟩ := ku_box w H z n
  have B0 := fun u => kbetween n 1 68719476736 u
  have B1 := fun u => kall H (-16777216) 16777216 u
  have B2 := fun u => kbetween z (-68719476736) 68719476736 u
  rw [h0] at B0
  have KB := Lib.hid hH
  replace B0 := Lib.hid B0
  replace B1 := Lib.hid B1
  replace B2 := Lib.hid B2
  replace eV := Lib.hid eV
  replace hz := Lib.hid hz
  replace hb0 := Lib.hid hb0
  clear hH h0
  have hh_ := KB.out
  obtain ⟨c0, f0⟩ := hh_.one 0 rfl
  obtain ⟨c1, f1⟩ := hh_.one 1 rfl
  obtain ⟨c2, f2⟩ := hh_.one 2 rfl
  obtain ⟨c3, f3⟩ := hh_.one 3 rfl
  obtain ⟨c4, f4⟩ := hh_.one 4 rfl
  clear hh_
  go_enter Try.func50, Try.ntmps50
  go_wp2_with fail
  rw [← eV.out]
  refine (B0.out _).mono ?_
  rintro e w' ⟨rfl, rfl⟩
  go_wp2
  go_ret
  exact ⟨rfl, hb0.out⟩
set_option maxRecDepth 100000 in
set_option maxHeartbeats 8000000 in
theorem kupd_r1 (ob : Nat) (H : Nat → Int) (z n : Int) (h0 : decide (1 ≤ n ∧ n ≤ 68719476736) = true) (h1 : kIn H (-16777216) 16777216 = false) (w : World) : Calls Try.prog 50 #[.pointer (some ⟨ob, 0, none⟩), .agg #[.int .i64 (H 0), .int .i64 (H 1), .int .i64 (H 2), .int .i64 z, .int .i64 n]] w fun e w' => e = .returned (.int .i64 2) ∧ Below w.heap.size w w' := by
  obtain ⟨V, eV, hb0, hH, hz⟩ := ku_box w H z n
  have B0 := fun u => kbetween n 1 68719476736 u
  have B1 := fun u => kall H (-16777216) 16777216 u
  have B2 := fun u => kbetween z (-68719476736) 68719476736 u
  rw [h0] at B0
  rw [h1] at B1
  have KB := Lib.hid hH
  replace B0 := Lib.hid B0
  replace B1 := Lib.hid B1
  replace B2 := Lib.hid B2
  replace eV := Lib.hid eV
  replace hz := Lib.hid hz
  replace hb0 := Lib.hid hb0
  clear hH h0 h1
  have hh_ := KB.out
  obtain ⟨c0, f0⟩ := hh_.one 0 rfl
  obtain ⟨c1, f1⟩ := hh_.one 1 rfl
  obtain ⟨c2, f2⟩ := hh_.one 2 rfl
  obtain ⟨c3, f3⟩ := hh_.one 3 rfl
  obtain ⟨c4, f4⟩ := hh_.one 4 rfl
  clear hh_
  go_enter Try.func50, Try.ntmps50
  go_wp2_with fail
  rw [← eV.out]
  refine (B0.out _).mono ?_
  rintro e w' ⟨rfl, rfl⟩
  go_wp2_with fail
  refine (B1.out _).mono ?_
  rintro e w1 ⟨rfl, hq⟩
  have hb1 := Lib.hid (hb0.out.trans (hq.mono hb0.out.size))
  replace KB := Lib.hid (KB.out.bel hq)
  clear hq
  clear c0 f0 c1 f1 c2 f2 c3 f3 c4 f4
  have hh_ := KB.out
  obtain ⟨c0, f0⟩ := hh_.one 0 rfl
  obtain ⟨c1, f1⟩ := hh_.one 1 rfl
  obtain ⟨c2, f2⟩ := hh_.one 2 rfl
  obtain ⟨c3, f3⟩ := hh_.one 3 rfl
  obtain ⟨c4, f4⟩ := hh_.one 4 rfl
  clear hh_
  go_wp2
  go_ret
  exact ⟨rfl, hb1.out⟩
set_option maxRecDepth 100000 in
set_option maxHeartbeats 8000000 in
theorem kupd_r2 (ob : Nat) (H : Nat → Int) (z n : Int) (h0 : decide (1 ≤ n ∧ n ≤ 68719476736) = true) (h1 : kIn H (-16777216) 16777216 = true) (h2 : decide (-68719476736 ≤ z ∧ z ≤ 68719476736) = false) (w : World) : Calls Try.prog 50 #[.pointer (some ⟨ob, 0, none⟩), .agg #[.int .i64 (H 0), .int .i64 (H 1), .int .i64 (H 2), .int .i64 z, .int .i64 n]] w fun e w' => e = .returned (.int .i64 2) ∧ Below w.heap.size w w' := by
  obtain ⟨V, eV, hb0, hH, hz⟩ := ku_box w H z n
  have B0 := fun u => kbetween n 1 68719476736 u
  have B1 := fun u => kall H (-16777216) 16777216 u
  have B2 := fun u => kbetween z (-68719476736) 68719476736 u
  rw [h0] at B0
  rw [h1] at B1
  rw [h2] at B2
  have KB := Lib.hid hH
  replace B0 := Lib.hid B0
  replace B1 := Lib.hid B1
  replace B2 := Lib.hid B2
  replace eV := Lib.hid eV
  replace hz := Lib.hid hz
  replace hb0 := Lib.hid hb0
  clear hH h0 h1 h2
  have hh_ := KB.out
  obtain ⟨c0, f0⟩ := hh_.one 0 rfl
  obtain ⟨c1, f1⟩ := hh_.one 1 rfl
  obtain ⟨c2, f2⟩ := hh_.one 2 rfl
  obtain ⟨c3, f3⟩ := hh_.one 3 rfl
  obtain ⟨c4, f4⟩ := hh_.one 4 rfl
  clear hh_
  go_enter Try.func50, Try.ntmps50
  go_wp2_with fail
  rw [← eV.out]
  refine (B0.out _).mono ?_
  rintro e w' ⟨rfl, rfl⟩
  go_wp2_with fail
  refine (B1.out _).mono ?_
  rintro e w1 ⟨rfl, hq⟩
  have hb1 := Lib.hid (hb0.out.trans (hq.mono hb0.out.size))
  replace KB := Lib.hid (KB.out.bel hq)
  clear hq
  clear c0 f0 c1 f1 c2 f2 c3 f3 c4 f4
  have hh_ := KB.out
  obtain ⟨c0, f0⟩ := hh_.one 0 rfl
  obtain ⟨c1, f1⟩ := hh_.one 1 rfl
  obtain ⟨c2, f2⟩ := hh_.one 2 rfl
  obtain ⟨c3, f3⟩ := hh_.one 3 rfl
  obtain ⟨c4, f4⟩ := hh_.one 4 rfl
  clear hh_
  go_wp2_with fail
  refine (B2.out _).mono ?_
  rintro e w' ⟨rfl, rfl⟩
  go_wp2
  go_ret
  exact ⟨rfl, hb1.out⟩
theorem kupd_range (ob : Nat) (H : Nat → Int) (z n : Int) (h : kuR H z n = false) (w : World) : Calls Try.prog 50 #[.pointer (some ⟨ob, 0, none⟩), .agg #[.int .i64 (H 0), .int .i64 (H 1), .int .i64 (H 2), .int .i64 z, .int .i64 n]] w fun e w' => e = .returned (.int .i64 2) ∧ Below w.heap.size w w' := by
  cases h0 : decide (1 ≤ n ∧ n ≤ 68719476736)
  · exact kupd_r0 ob H z n h0 w
  · cases h1 : kIn H (-16777216) 16777216
    · exact kupd_r1 ob H z n h0 h1 w
    · cases h2 : decide (-68719476736 ≤ z ∧ z ≤ 68719476736)
      · exact kupd_r2 ob H z n h0 h1 h2 w
      · unfold kuR at h
        rw [h0, h1, h2] at h
        cases h
set_option maxRecDepth 100000 in
set_option maxHeartbeats 8000000 in
theorem kupd_high_p0 (ob : Nat) (X P : Nat → Int) (g tk rf : Int) (H : Nat → Int) (z n : Int) (w : World) (k : Held ob (KeC X P g tk rf) w) (h0 : decide (1 ≤ n ∧ n ≤ 68719476736) = true) (h1 : kIn H (-16777216) 16777216 = true) (h2 : decide (-68719476736 ≤ z ∧ z ≤ 68719476736) = true) (g1 : 1 ≤ g ∧ g ≤ 68719476736) (t1 : 0 ≤ tk ∧ tk < 1000000) (t2 : 0 ≤ rf ∧ rf < 1000000) (hg : 0 ≤ kOff X H z ∧ g < kOff X H z) : Calls Try.prog 50 #[.pointer (some ⟨ob, 0, none⟩), .agg #[.int .i64 (H 0), .int .i64 (H 1), .int .i64 (H 2), .int .i64 z, .int .i64 n]] w fun e w' => e = .returned (.int .i64 9) ∧ Held ob (KeC X P g tk (rf + 1)) w' ∧ Beside ob w w' := by
  have zb := of_decide_eq_true h2
  have db := dtI_bd H X
  have nb := of_decide_eq_true h0
  have eo : kOff X H z = z - dtI H X := rfl
  obtain ⟨V, eV, hb0, hH, hz⟩ := ku_box w H z n
  have B0 := fun u => kbetween n 1 68719476736 u
  have B1 := fun u => kall H (-16777216) 16777216 u
  have B2 := fun u => kbetween z (-68719476736) 68719476736 u
  rw [h0] at B0
  rw [h1] at B1
  rw [h2] at B2
  have blt := k.lt
  have KO := Lib.hid (k.below hb0 blt)
  have EX := Lib.hid (fun u (kk : Held ob (KeC X P g tk rf) u) => kexpect ob X P g tk rf H z n u kk)
  have BS := Lib.hid (Beside.of_below (b := ob) hb0)
  have KB := Lib.hid hH
  replace B0 := Lib.hid B0
  replace B1 := Lib.hid B1
  replace B2 := Lib.hid B2
  replace eV := Lib.hid eV
  replace hz := Lib.hid hz
  replace hb0 := Lib.hid hb0
  clear hH h0 h1 h2 k
  have hh_ := KB.out
  obtain ⟨c0, f0⟩ := hh_.one 0 rfl
  obtain ⟨c1, f1⟩ := hh_.one 1 rfl
  obtain ⟨c2, f2⟩ := hh_.one 2 rfl
  obtain ⟨c3, f3⟩ := hh_.one 3 rfl
  obtain ⟨c4, f4⟩ := hh_.one 4 rfl
  clear hh_
  generalize kOff X H z = off at *
  generalize dtI H X = d at *
  have ew : IntKind.i64.wrap (z - d) = off := by rw [eo]; exact IntWalk.i64_in _ ⟨by omega, by omega⟩
  have en : IntKind.i64.wrap (-off) = -off := IntWalk.i64_in _ ⟨by omega, by omega⟩
  obtain ⟨hg1, hg2⟩ := hg
  clear zb db nb
  replace eo := Lib.hid eo
  go_enter Try.func50, Try.ntmps50
  go_wp2_with fail
  rw [← eV.out]
  refine (B0.out _).mono ?_
  rintro e w' ⟨rfl, rfl⟩
  go_wp2_with fail
  refine (B1.out _).mono ?_
  rintro e w1 ⟨rfl, hq⟩
  replace KO := Lib.hid (KO.out.bel hq)
  replace BS := Lib.hid (BS.out.trans (.of_below hq))
  replace KB := Lib.hid (KB.out.bel hq)
  clear hq
  clear c0 f0 c1 f1 c2 f2 c3 f3 c4 f4
  have hh_ := KB.out
  obtain ⟨c0, f0⟩ := hh_.one 0 rfl
  obtain ⟨c1, f1⟩ := hh_.one 1 rfl
  obtain ⟨c2, f2⟩ := hh_.one 2 rfl
  obtain ⟨c3, f3⟩ := hh_.one 3 rfl
  obtain ⟨c4, f4⟩ := hh_.one 4 rfl
  clear hh_
  go_wp2_with fail
  refine (B2.out _).mono ?_
  rintro e w' ⟨rfl, rfl⟩
  go_wp2_with fail
  refine (EX.out _ KO.out).mono ?_
  rintro e w2 ⟨rfl, hq⟩
  replace KO := Lib.hid (KO.out.bel hq)
  replace BS := Lib.hid (BS.out.trans (.of_below hq))
  replace KB := Lib.hid (KB.out.bel hq)
  clear hq
  clear c0 f0 c1 f1 c2 f2 c3 f3 c4 f4
  have hh_ := KB.out
  obtain ⟨c0, f0⟩ := hh_.one 0 rfl
  obtain ⟨c1, f1⟩ := hh_.one 1 rfl
  obtain ⟨c2, f2⟩ := hh_.one 2 rfl
  obtain ⟨c3, f3⟩ := hh_.one 3 rfl
  obtain ⟨c4, f4⟩ := hh_.one 4 rfl
  clear hh_
  have g12 := KO.out.c 12 _ rfl
  go_wp2_with fail
  have kk := KO.out
  have ca := kk.c 14 _ rfl
  have fa := kk.f 14 (by simp [KeC])
  refine (aadd64 _ _ _ _ ca fa (by omega) (by omega)).mono ?_
  rintro e w3 ⟨rfl, e3⟩
  obtain ⟨k3, b3⟩ := (((HB.start kk).set 14 (.int .i64 (rf + 1)) (by simp [KeC])).is (show _ = KeC X P g tk (rf + 1) from rfl)).fin (v' := w3) (by rw [e3]) (by rw [e3]) (by rw [e3]) (by rw [e3])
  replace e3 := Lib.hid e3
  replace KO := Lib.hid k3
  replace BS := Lib.hid (BS.out.trans b3)
  clear k3 b3 kk ca fa g12 c0 f0 c1 f1 c2 f2 c3 f3 c4 f4
  go_wp2
  go_ret
  exact ⟨rfl, KO.out, BS.out⟩
set_option maxRecDepth 100000 in
set_option maxHeartbeats 8000000 in
theorem kupd_high_p1 (ob : Nat) (X P : Nat → Int) (g tk rf : Int) (H : Nat → Int) (z n : Int) (w : World) (k : Held ob (KeC X P g tk rf) w) (h0 : decide (1 ≤ n ∧ n ≤ 68719476736) = true) (h1 : kIn H (-16777216) 16777216 = true) (h2 : decide (-68719476736 ≤ z ∧ z ≤ 68719476736) = true) (g1 : 1 ≤ g ∧ g ≤ 68719476736) (t1 : 0 ≤ tk ∧ tk < 1000000) (t2 : 0 ≤ rf ∧ rf < 1000000) (hg : kOff X H z < 0 ∧ g < -kOff X H z) : Calls Try.prog 50 #[.pointer (some ⟨ob, 0, none⟩), .agg #[.int .i64 (H 0), .int .i64 (H 1), .int .i64 (H 2), .int .i64 z, .int .i64 n]] w fun e w' => e = .returned (.int .i64 9) ∧ Held ob (KeC X P g tk (rf + 1)) w' ∧ Beside ob w w' := by
  have zb := of_decide_eq_true h2
  have db := dtI_bd H X
  have nb := of_decide_eq_true h0
  have eo : kOff X H z = z - dtI H X := rfl
  obtain ⟨V, eV, hb0, hH, hz⟩ := ku_box w H z n
  have B0 := fun u => kbetween n 1 68719476736 u
  have B1 := fun u => kall H (-16777216) 16777216 u
  have B2 := fun u => kbetween z (-68719476736) 68719476736 u
  rw [h0] at B0
  rw [h1] at B1
  rw [h2] at B2
  have blt := k.lt
  have KO := Lib.hid (k.below hb0 blt)
  have EX := Lib.hid (fun u (kk : Held ob (KeC X P g tk rf) u) => kexpect ob X P g tk rf H z n u kk)
  have BS := Lib.hid (Beside.of_below (b := ob) hb0)
  have KB := Lib.hid hH
  replace B0 := Lib.hid B0
  replace B1 := Lib.hid B1
  replace B2 := Lib.hid B2
  replace eV := Lib.hid eV
  replace hz := Lib.hid hz
  replace hb0 := Lib.hid hb0
  clear hH h0 h1 h2 k
  have hh_ := KB.out
  obtain ⟨c0, f0⟩ := hh_.one 0 rfl
  obtain ⟨c1, f1⟩ := hh_.one 1 rfl
  obtain ⟨c2, f2⟩ := hh_.one 2 rfl
  obtain ⟨c3, f3⟩ := hh_.one 3 rfl
  obtain ⟨c4, f4⟩ := hh_.one 4 rfl
  clear hh_
  generalize kOff X H z = off at *
  generalize dtI H X = d at *
  have ew : IntKind.i64.wrap (z - d) = off := by rw [eo]; exact IntWalk.i64_in _ ⟨by omega, by omega⟩
  have en : IntKind.i64.wrap (-off) = -off := IntWalk.i64_in _ ⟨by omega, by omega⟩
  obtain ⟨hg1, hg2⟩ := hg
  clear zb db nb
  replace eo := Lib.hid eo
  go_enter Try.func50, Try.ntmps50
  go_wp2_with fail
  rw [← eV.out]
  refine (B0.out _).mono ?_
  rintro e w' ⟨rfl, rfl⟩
  go_wp2_with fail
  refine (B1.out _).mono ?_
  rintro e w1 ⟨rfl, hq⟩
  replace KO := Lib.hid (KO.out.bel hq)
  replace BS := Lib.hid (BS.out.trans (.of_below hq))
  replace KB := Lib.hid (KB.out.bel hq)
  clear hq
  clear c0 f0 c1 f1 c2 f2 c3 f3 c4 f4
  have hh_ := KB.out
  obtain ⟨c0, f0⟩ := hh_.one 0 rfl
  obtain ⟨c1, f1⟩ := hh_.one 1 rfl
  obtain ⟨c2, f2⟩ := hh_.one 2 rfl
  obtain ⟨c3, f3⟩ := hh_.one 3 rfl
  obtain ⟨c4, f4⟩ := hh_.one 4 rfl
  clear hh_
  go_wp2_with fail
  refine (B2.out _).mono ?_
  rintro e w' ⟨rfl, rfl⟩
  go_wp2_with fail
  refine (EX.out _ KO.out).mono ?_
  rintro e w2 ⟨rfl, hq⟩
  replace KO := Lib.hid (KO.out.bel hq)
  replace BS := Lib.hid (BS.out.trans (.of_below hq))
  replace KB := Lib.hid (KB.out.bel hq)
  clear hq
  clear c0 f0 c1 f1 c2 f2 c3 f3 c4 f4
  have hh_ := KB.out
  obtain ⟨c0, f0⟩ := hh_.one 0 rfl
  obtain ⟨c1, f1⟩ := hh_.one 1 rfl
  obtain ⟨c2, f2⟩ := hh_.one 2 rfl
  obtain ⟨c3, f3⟩ := hh_.one 3 rfl
  obtain ⟨c4, f4⟩ := hh_.one 4 rfl
  clear hh_
  have g12 := KO.out.c 12 _ rfl
  go_wp2_with fail
  have kk := KO.out
  have ca := kk.c 14 _ rfl
  have fa := kk.f 14 (by simp [KeC])
  refine (aadd64 _ _ _ _ ca fa (by omega) (by omega)).mono ?_
  rintro e w3 ⟨rfl, e3⟩
  obtain ⟨k3, b3⟩ := (((HB.start kk).set 14 (.int .i64 (rf + 1)) (by simp [KeC])).is (show _ = KeC X P g tk (rf + 1) from rfl)).fin (v' := w3) (by rw [e3]) (by rw [e3]) (by rw [e3]) (by rw [e3])
  replace e3 := Lib.hid e3
  replace KO := Lib.hid k3
  replace BS := Lib.hid (BS.out.trans b3)
  clear k3 b3 kk ca fa g12 c0 f0 c1 f1 c2 f2 c3 f3 c4 f4
  go_wp2
  go_ret
  exact ⟨rfl, KO.out, BS.out⟩
set_option maxRecDepth 100000 in
set_option maxHeartbeats 8000000 in
theorem kupd_ok_p0 (ob : Nat) (X P : Nat → Int) (g tk rf : Int) (H : Nat → Int) (z n : Int) (w : World) (k : Held ob (KeC X P g tk rf) w) (h0 : decide (1 ≤ n ∧ n ≤ 68719476736) = true) (h1 : kIn H (-16777216) 16777216 = true) (h2 : decide (-68719476736 ≤ z ∧ z ≤ 68719476736) = true) (g1 : 1 ≤ g ∧ g ≤ 68719476736) (t1 : 0 ≤ tk ∧ tk < 1000000) (t2 : 0 ≤ rf ∧ rf < 1000000) (hg : 0 ≤ kOff X H z ∧ kOff X H z ≤ g) : Calls Try.prog 50 #[.pointer (some ⟨ob, 0, none⟩), .agg #[.int .i64 (H 0), .int .i64 (H 1), .int .i64 (H 2), .int .i64 z, .int .i64 n]] w fun e w' => e = .returned (.int .i64 0) ∧ Held ob (KeC (kX X P H n (kOff X H z)) (kP P H n) g (tk + 1) rf) w' ∧ Beside ob w w' := by
  have zb := of_decide_eq_true h2
  have db := dtI_bd H X
  have nb := of_decide_eq_true h0
  have eo : kOff X H z = z - dtI H X := rfl
  have CO := Lib.hid (fun u (kk : Held ob (KeC X P g tk rf) u) => kcorrect ob X P g tk rf H z n (kOff X H z) u kk nb (by omega))
  obtain ⟨V, eV, hb0, hH, hz⟩ := ku_box w H z n
  have B0 := fun u => kbetween n 1 68719476736 u
  have B1 := fun u => kall H (-16777216) 16777216 u
  have B2 := fun u => kbetween z (-68719476736) 68719476736 u
  rw [h0] at B0
  rw [h1] at B1
  rw [h2] at B2
  have blt := k.lt
  have KO := Lib.hid (k.below hb0 blt)
  have EX := Lib.hid (fun u (kk : Held ob (KeC X P g tk rf) u) => kexpect ob X P g tk rf H z n u kk)
  have BS := Lib.hid (Beside.of_below (b := ob) hb0)
  have KB := Lib.hid hH
  replace B0 := Lib.hid B0
  replace B1 := Lib.hid B1
  replace B2 := Lib.hid B2
  replace eV := Lib.hid eV
  replace hz := Lib.hid hz
  replace hb0 := Lib.hid hb0
  clear hH h0 h1 h2 k
  have hh_ := KB.out
  obtain ⟨c0, f0⟩ := hh_.one 0 rfl
  obtain ⟨c1, f1⟩ := hh_.one 1 rfl
  obtain ⟨c2, f2⟩ := hh_.one 2 rfl
  obtain ⟨c3, f3⟩ := hh_.one 3 rfl
  obtain ⟨c4, f4⟩ := hh_.one 4 rfl
  clear hh_
  generalize kOff X H z = off at *
  generalize dtI H X = d at *
  have ew : IntKind.i64.wrap (z - d) = off := by rw [eo]; exact IntWalk.i64_in _ ⟨by omega, by omega⟩
  have en : IntKind.i64.wrap (-off) = -off := IntWalk.i64_in _ ⟨by omega, by omega⟩
  obtain ⟨hg1, hg2⟩ := hg
  clear zb db nb
  replace eo := Lib.hid eo
  go_enter Try.func50, Try.ntmps50
  go_wp2_with fail
  rw [← eV.out]
  refine (B0.out _).mono ?_
  rintro e w' ⟨rfl, rfl⟩
  go_wp2_with fail
  refine (B1.out _).mono ?_
  rintro e w1 ⟨rfl, hq⟩
  replace KO := Lib.hid (KO.out.bel hq)
  replace BS := Lib.hid (BS.out.trans (.of_below hq))
  replace KB := Lib.hid (KB.out.bel hq)
  clear hq
  clear c0 f0 c1 f1 c2 f2 c3 f3 c4 f4
  have hh_ := KB.out
  obtain ⟨c0, f0⟩ := hh_.one 0 rfl
  obtain ⟨c1, f1⟩ := hh_.one 1 rfl
  obtain ⟨c2, f2⟩ := hh_.one 2 rfl
  obtain ⟨c3, f3⟩ := hh_.one 3 rfl
  obtain ⟨c4, f4⟩ := hh_.one 4 rfl
  clear hh_
  go_wp2_with fail
  refine (B2.out _).mono ?_
  rintro e w' ⟨rfl, rfl⟩
  go_wp2_with fail
  refine (EX.out _ KO.out).mono ?_
  rintro e w2 ⟨rfl, hq⟩
  replace KO := Lib.hid (KO.out.bel hq)
  replace BS := Lib.hid (BS.out.trans (.of_below hq))
  replace KB := Lib.hid (KB.out.bel hq)
  clear hq
  clear c0 f0 c1 f1 c2 f2 c3 f3 c4 f4
  have hh_ := KB.out
  obtain ⟨c0, f0⟩ := hh_.one 0 rfl
  obtain ⟨c1, f1⟩ := hh_.one 1 rfl
  obtain ⟨c2, f2⟩ := hh_.one 2 rfl
  obtain ⟨c3, f3⟩ := hh_.one 3 rfl
  obtain ⟨c4, f4⟩ := hh_.one 4 rfl
  clear hh_
  have g12 := KO.out.c 12 _ rfl
  go_wp2_with fail
  refine (CO.out _ KO.out).mono ?_
  rintro e w3 ⟨rfl, kk, b3⟩
  have KK := Lib.hid kk
  have ca := kk.c 13 _ rfl
  have fa := kk.f 13 (by simp [KeC])
  replace BS := Lib.hid (BS.out.trans b3)
  clear kk b3 KO g12 c0 f0 c1 f1 c2 f2 c3 f3 c4 f4
  go_wp2_with fail
  refine (aadd64 _ _ _ _ ca fa (by omega) (by omega)).mono ?_
  rintro e w4 ⟨rfl, e4⟩
  obtain ⟨k4, b4⟩ := (((HB.start KK.out).set 13 (.int .i64 (tk + 1)) (by simp [KeC])).is (show _ = KeC _ _ g (tk + 1) rf from rfl)).fin (v' := w4) (by rw [e4]) (by rw [e4]) (by rw [e4]) (by rw [e4])
  replace e4 := Lib.hid e4
  have K4 := Lib.hid k4
  replace BS := Lib.hid (BS.out.trans b4)
  clear k4 b4 ca fa KK
  go_wp2
  go_ret
  exact ⟨rfl, K4.out, BS.out⟩
set_option maxRecDepth 100000 in
set_option maxHeartbeats 8000000 in
theorem kupd_ok_p1 (ob : Nat) (X P : Nat → Int) (g tk rf : Int) (H : Nat → Int) (z n : Int) (w : World) (k : Held ob (KeC X P g tk rf) w) (h0 : decide (1 ≤ n ∧ n ≤ 68719476736) = true) (h1 : kIn H (-16777216) 16777216 = true) (h2 : decide (-68719476736 ≤ z ∧ z ≤ 68719476736) = true) (g1 : 1 ≤ g ∧ g ≤ 68719476736) (t1 : 0 ≤ tk ∧ tk < 1000000) (t2 : 0 ≤ rf ∧ rf < 1000000) (hg : kOff X H z < 0 ∧ -kOff X H z ≤ g) : Calls Try.prog 50 #[.pointer (some ⟨ob, 0, none⟩), .agg #[.int .i64 (H 0), .int .i64 (H 1), .int .i64 (H 2), .int .i64 z, .int .i64 n]] w fun e w' => e = .returned (.int .i64 0) ∧ Held ob (KeC (kX X P H n (kOff X H z)) (kP P H n) g (tk + 1) rf) w' ∧ Beside ob w w' := by
  have zb := of_decide_eq_true h2
  have db := dtI_bd H X
  have nb := of_decide_eq_true h0
  have eo : kOff X H z = z - dtI H X := rfl
  have CO := Lib.hid (fun u (kk : Held ob (KeC X P g tk rf) u) => kcorrect ob X P g tk rf H z n (kOff X H z) u kk nb (by omega))
  obtain ⟨V, eV, hb0, hH, hz⟩ := ku_box w H z n
  have B0 := fun u => kbetween n 1 68719476736 u
  have B1 := fun u => kall H (-16777216) 16777216 u
  have B2 := fun u => kbetween z (-68719476736) 68719476736 u
  rw [h0] at B0
  rw [h1] at B1
  rw [h2] at B2
  have blt := k.lt
  have KO := Lib.hid (k.below hb0 blt)
  have EX := Lib.hid (fun u (kk : Held ob (KeC X P g tk rf) u) => kexpect ob X P g tk rf H z n u kk)
  have BS := Lib.hid (Beside.of_below (b := ob) hb0)
  have KB := Lib.hid hH
  replace B0 := Lib.hid B0
  replace B1 := Lib.hid B1
  replace B2 := Lib.hid B2
  replace eV := Lib.hid eV
  replace hz := Lib.hid hz
  replace hb0 := Lib.hid hb0
  clear hH h0 h1 h2 k
  have hh_ := KB.out
  obtain ⟨c0, f0⟩ := hh_.one 0 rfl
  obtain ⟨c1, f1⟩ := hh_.one 1 rfl
  obtain ⟨c2, f2⟩ := hh_.one 2 rfl
  obtain ⟨c3, f3⟩ := hh_.one 3 rfl
  obtain ⟨c4, f4⟩ := hh_.one 4 rfl
  clear hh_
  generalize kOff X H z = off at *
  generalize dtI H X = d at *
  have ew : IntKind.i64.wrap (z - d) = off := by rw [eo]; exact IntWalk.i64_in _ ⟨by omega, by omega⟩
  have en : IntKind.i64.wrap (-off) = -off := IntWalk.i64_in _ ⟨by omega, by omega⟩
  obtain ⟨hg1, hg2⟩ := hg
  clear zb db nb
  replace eo := Lib.hid eo
  go_enter Try.func50, Try.ntmps50
  go_wp2_with fail
  rw [← eV.out]
  refine (B0.out _).mono ?_
  rintro e w' ⟨rfl, rfl⟩
  go_wp2_with fail
  refine (B1.out _).mono ?_
  rintro e w1 ⟨rfl, hq⟩
  replace KO := Lib.hid (KO.out.bel hq)
  replace BS := Lib.hid (BS.out.trans (.of_below hq))
  replace KB := Lib.hid (KB.out.bel hq)
  clear hq
  clear c0 f0 c1 f1 c2 f2 c3 f3 c4 f4
  have hh_ := KB.out
  obtain ⟨c0, f0⟩ := hh_.one 0 rfl
  obtain ⟨c1, f1⟩ := hh_.one 1 rfl
  obtain ⟨c2, f2⟩ := hh_.one 2 rfl
  obtain ⟨c3, f3⟩ := hh_.one 3 rfl
  obtain ⟨c4, f4⟩ := hh_.one 4 rfl
  clear hh_
  go_wp2_with fail
  refine (B2.out _).mono ?_
  rintro e w' ⟨rfl, rfl⟩
  go_wp2_with fail
  refine (EX.out _ KO.out).mono ?_
  rintro e w2 ⟨rfl, hq⟩
  replace KO := Lib.hid (KO.out.bel hq)
  replace BS := Lib.hid (BS.out.trans (.of_below hq))
  replace KB := Lib.hid (KB.out.bel hq)
  clear hq
  clear c0 f0 c1 f1 c2 f2 c3 f3 c4 f4
  have hh_ := KB.out
  obtain ⟨c0, f0⟩ := hh_.one 0 rfl
  obtain ⟨c1, f1⟩ := hh_.one 1 rfl
  obtain ⟨c2, f2⟩ := hh_.one 2 rfl
  obtain ⟨c3, f3⟩ := hh_.one 3 rfl
  obtain ⟨c4, f4⟩ := hh_.one 4 rfl
  clear hh_
  have g12 := KO.out.c 12 _ rfl
  go_wp2_with fail
  refine (CO.out _ KO.out).mono ?_
  rintro e w3 ⟨rfl, kk, b3⟩
  have KK := Lib.hid kk
  have ca := kk.c 13 _ rfl
  have fa := kk.f 13 (by simp [KeC])
  replace BS := Lib.hid (BS.out.trans b3)
  clear kk b3 KO g12 c0 f0 c1 f1 c2 f2 c3 f3 c4 f4
  go_wp2_with fail
  refine (aadd64 _ _ _ _ ca fa (by omega) (by omega)).mono ?_
  rintro e w4 ⟨rfl, e4⟩
  obtain ⟨k4, b4⟩ := (((HB.start KK.out).set 13 (.int .i64 (tk + 1)) (by simp [KeC])).is (show _ = KeC _ _ g (tk + 1) rf from rfl)).fin (v' := w4) (by rw [e4]) (by rw [e4]) (by rw [e4]) (by rw [e4])
  replace e4 := Lib.hid e4
  have K4 := Lib.hid k4
  replace BS := Lib.hid (BS.out.trans b4)
  clear k4 b4 ca fa KK
  go_wp2
  go_ret
  exact ⟨rfl, K4.out, BS.out⟩
theorem kuR_true {H : Nat → Int} {z n : Int} (h : kuR H z n = true) : decide (1 ≤ n ∧ n ≤ 68719476736) = true ∧ kIn H (-16777216) 16777216 = true ∧ decide (-68719476736 ≤ z ∧ z ≤ 68719476736) = true := by
  unfold kuR at h
  simp only [Bool.and_eq_true] at h
  exact ⟨h.1.1, h.1.2, h.2⟩
structure KS where
  X : Nat → Int
  P : Nat → Int
  tk : Int
  rf : Int
def kuE (S : KS) (g : Int) (H : Nat → Int) (z n : Int) : Int := if kuR H z n = true then (if kHi g (kOff S.X H z) = true then 9 else 0) else 2
def kuS (S : KS) (g : Int) (H : Nat → Int) (z n : Int) : KS :=
  if kuR H z n = true then (if kHi g (kOff S.X H z) = true then ⟨S.X, S.P, S.tk, S.rf + 1⟩ else ⟨kX S.X S.P H n (kOff S.X H z), kP S.P H n, S.tk + 1, S.rf⟩) else S
theorem kupdate (ob : Nat) (S : KS) (g : Int) (H : Nat → Int) (z n : Int) (w : World) (k : Held ob (KeC S.X S.P g S.tk S.rf) w) (g1 : 1 ≤ g ∧ g ≤ 68719476736) (t1 : 0 ≤ S.tk ∧ S.tk < 1000000) (t2 : 0 ≤ S.rf ∧ S.rf < 1000000) :
    Calls Try.prog 50 #[.pointer (some ⟨ob, 0, none⟩), .agg #[.int .i64 (H 0), .int .i64 (H 1), .int .i64 (H 2), .int .i64 z, .int .i64 n]] w fun e w' => e = .returned (.int .i64 (kuE S g H z n)) ∧ Held ob (KeC (kuS S g H z n).X (kuS S g H z n).P g (kuS S g H z n).tk (kuS S g H z n).rf) w' ∧ Beside ob w w' := by
  cases hR : kuR H z n
  · rw [show kuE S g H z n = 2 by unfold kuE; rw [hR]; rfl, show kuS S g H z n = S by unfold kuS; rw [hR]; rfl]
    exact (kupd_range ob H z n hR w).mono fun e w' ⟨he, hb⟩ => ⟨he, k.bel hb, .of_below hb⟩
  · obtain ⟨h0, h1, h2⟩ := kuR_true hR
    cases hh : kHi g (kOff S.X H z)
    · rw [show kuE S g H z n = 0 by unfold kuE; rw [hR, hh]; rfl, show kuS S g H z n = ⟨kX S.X S.P H n (kOff S.X H z), kP S.P H n, S.tk + 1, S.rf⟩ by unfold kuS; rw [hR, hh]; rfl]
      have hg := of_decide_eq_false hh
      by_cases hp : 0 ≤ kOff S.X H z
      · exact kupd_ok_p0 ob S.X S.P g S.tk S.rf H z n w k h0 h1 h2 g1 t1 t2 ⟨hp, by omega⟩
      · exact kupd_ok_p1 ob S.X S.P g S.tk S.rf H z n w k h0 h1 h2 g1 t1 t2 ⟨by omega, by omega⟩
    · rw [show kuE S g H z n = 9 by unfold kuE; rw [hR, hh]; rfl, show kuS S g H z n = ⟨S.X, S.P, S.tk, S.rf + 1⟩ by unfold kuS; rw [hR, hh]; rfl]
      have hg := of_decide_eq_true hh
      by_cases hp : 0 ≤ kOff S.X H z
      · exact kupd_high_p0 ob S.X S.P g S.tk S.rf H z n w k h0 h1 h2 g1 t1 t2 ⟨hp, by omega⟩
      · exact kupd_high_p1 ob S.X S.P g S.tk S.rf H z n w k h0 h1 h2 g1 t1 t2 ⟨by omega, by omega⟩
def kpE (N : Nat → Int) : Int := if kIn N 0 68719476736 = true then 0 else 2
def kpS (S : KS) (N : Nat → Int) : KS := if kIn N 0 68719476736 = true then ⟨S.X, kPr S.P N, S.tk, S.rf⟩ else S
theorem kpredict (ob : Nat) (S : KS) (g : Int) (N : Nat → Int) (w : World) (k : Held ob (KeC S.X S.P g S.tk S.rf) w) (hB : kB S.P) :
    Calls Try.prog 49 #[.pointer (some ⟨ob, 0, none⟩), .agg #[.int .i64 (N 0), .int .i64 (N 1), .int .i64 (N 2)]] w fun e w' => e = .returned (.int .i64 (kpE N)) ∧ Held ob (KeC (kpS S N).X (kpS S N).P g (kpS S N).tk (kpS S N).rf) w' ∧ Beside ob w w' := by
  cases hn : kIn N 0 68719476736
  · rw [show kpE N = 2 by unfold kpE; rw [hn]; rfl, show kpS S N = S by unfold kpS; rw [hn]; rfl]
    exact (kpred_no ob S.X S.P g S.tk S.rf N w hn).mono fun e w' ⟨he, hb⟩ => ⟨he, k.bel hb, .of_below hb⟩
  · rw [show kpE N = 0 by unfold kpE; rw [hn]; rfl, show kpS S N = ⟨S.X, kPr S.P N, S.tk, S.rf⟩ by unfold kpS; rw [hn]; rfl]
    exact kpred ob S.X S.P g S.tk S.rf N w k hB hn
/-- What stays so. -/
structure KSOk (m : Int) (S : KS) : Prop where
  p : KOk S.P
  x : kIn S.X (-68719476736) 68719476736 = true
  t0 : 0 ≤ S.tk
  t1 : S.tk ≤ m
  r0 : 0 ≤ S.rf
  r1 : S.rf ≤ m
theorem kuS_ok {m : Int} {S : KS} (h : KSOk m S) (g : Int) (H : Nat → Int) (z n : Int) : KSOk (m + 1) (kuS S g H z n) := by
  have h1 := h.t0
  have h2 := h.t1
  have h3 := h.r0
  have h4 := h.r1
  unfold kuS
  split
  · rename_i hR
    obtain ⟨g0, -, -⟩ := kuR_true hR
    have nb := of_decide_eq_true g0
    split
    · exact ⟨h.p, h.x, h1, by show S.tk ≤ m + 1; omega, by show 0 ≤ S.rf + 1; omega, by show S.rf + 1 ≤ m + 1; omega⟩
    · exact ⟨kP_ok h.p nb, kX_in _ _ _ _ _, by show 0 ≤ S.tk + 1; omega, by show S.tk + 1 ≤ m + 1; omega, h3, by show S.rf ≤ m + 1; omega⟩
  · exact ⟨h.p, h.x, h1, by omega, h3, by omega⟩
theorem kpS_ok {m : Int} {S : KS} (h : KSOk m S) (N : Nat → Int) : KSOk (m + 1) (kpS S N) := by
  have h1 := h.t0
  have h2 := h.t1
  have h3 := h.r0
  have h4 := h.r1
  unfold kpS
  split
  · rename_i hn
    exact ⟨kPr_ok h.p hn, h.x, h1, by show S.tk ≤ m + 1; omega, h3, by show S.rf ≤ m + 1; omega⟩
  · exact ⟨h.p, h.x, h1, by omega, h3, by omega⟩
theorem kn_ok {A D : Nat → Int} (ha : kIn A (-68719476736) 68719476736 = true) (hd : kIn D 0 68719476736 = true) : KSOk 0 ⟨A, dgl D, 0, 0⟩ := by
  refine ⟨⟨fun t ht => ?_, fun t ht => ?_, fun t ht hd4 => ?_⟩, ha, Int.le_refl 0, Int.le_refl 0, Int.le_refl 0, Int.le_refl 0⟩
  · show -1099511627775 ≤ dgl D t ∧ dgl D t ≤ 1099511627775
    unfold dgl
    split
    · have := kIn_at hd (i := t / 4) (by omega); omega
    · omega
  · rcases (show t = 0 ∨ t = 1 ∨ t = 2 ∨ t = 3 ∨ t = 4 ∨ t = 5 ∨ t = 6 ∨ t = 7 ∨ t = 8 by omega) with rfl | rfl | rfl | rfl | rfl | rfl | rfl | rfl | rfl <;> rfl
  · show 0 ≤ dgl D t ∧ dgl D t ≤ 274877906944
    unfold dgl
    rw [if_pos hd4]
    have := kIn_at hd (i := t / 4) (by omega); omega
end Go.Proofs.Ytakocggclopngaa
