/- The chapter's example of frames; the laws FramePuts and FrameTakes; walked. -/
import Derived.Test.YtflcagcekhgjcaaFrame4
import Derived.Deep.Cut
namespace Go.Proofs.Ytflcagcekhgjcaa
open Go.ChangeShapes Go.WideShapes Go.ChangeAt Go.RowKit
set_option linter.unusedVariables false
set_option linter.unusedSimpArgs false

theorem row3u {W : World} {b : Nat} {p q r : Int} (hb : b < W.heap.size) (h0 : W.cell? ⟨b, 0, none⟩ = some (.int .u8 p)) (h1 : W.cell? ⟨b, 1, none⟩ = some (.int .u8 q)) (h2 : W.cell? ⟨b, 2, none⟩ = some (.int .u8 r)) : RowIs .u8 W (some ⟨b, 0, none⟩) [p, q, r] :=
  .inr ⟨b, 0, rfl, hb, fun i hi => by
    rcases i with _ | _ | _ | i
    · exact h0
    · exact h1
    · exact h2
    · have h2 : i + 1 + 1 + 1 < 3 := hi
      omega⟩
/-- A row of the call's own, further on. -/
theorem own_below {w w' : World} {B n : Nat} {v : Value} {xs : List Value} {T : TypeId} (h : w.ownsRow B T 1 v n xs) (k : Below w.heap.size w w') : w'.ownsRow B T 1 v n xs :=
  h.kept (row := none) ⟨k.os, k.tape, k.output, k.size, fun j hj _ => k.block j hj⟩ (by cases v.ownBlock <;> simp)
set_option maxRecDepth 100000 in
set_option maxHeartbeats 8000000 in
theorem lives12 (w : World) : Calls Try.prog 18 #[] w fun e w' => e = .returned (.bool true) ∧ Below w.heap.size w w' := by
  have PT := Lib.hid (fun u => fput_ok 1 2 (-1) 20 u (by decide))
  have SM := fun u (b : Nat) (hr : RowIs .u8 u (some ⟨b, 0, none⟩) [1, 2, 3]) => show Calls Try.prog 24 #[.slice (some ⟨b, 0, none⟩) 3 3] u _ from fsum (some ⟨b, 0, none⟩) 3 [1, 2, 3] u hr (by show 3 ≤ maxLen; decide)
  simp only [show (256 - tot [1, 2, 3]) % 256 = 250 from by decide] at SM
  replace SM := Lib.hid SM
  go_enter Try.func18, Try.ntmps18
  go_wp2_with fail
  refine (PT.out _).mono ?_
  rintro e w1 ⟨g, cap, rfl, ho, hb1⟩
  obtain ⟨hr, hg1, hg2⟩ := own_bytes ho (by decide) rfl
  have c0 := ho.cellAt 0 (by decide)
  have c3 := ho.cellAt 3 (by decide)
  replace c0 : w1.cell? ⟨g, 0, none⟩ = some (.int .u8 165) := c0
  replace c3 : w1.cell? ⟨g, 3, none⟩ = some (.int .u8 255) := c3
  clear ho hr
  obtain ⟨W1, eW, hbW, hRW⟩ : ∃ W1, W1 = w1.alloc (.cells #[.int .u8 1, .int .u8 2, .int .u8 3] 5) ∧ Below w1.heap.size w1 W1 ∧ RowIs .u8 W1 (some ⟨w1.heap.size, 0, none⟩) [1, 2, 3] := ⟨_, rfl, (Below.refl _ _).alloc (Nat.le_refl _) _, row3u (by simp) (by go_simp) (by go_simp) (by go_simp)⟩
  replace eW := Lib.hid eW
  have k0 := (bc hbW hg2).trans c0
  have k3 := (bc hbW hg2).trans c3
  have hb2 := Lib.hid (hb1.trans (hbW.mono hb1.size))
  replace hRW := Lib.hid hRW
  clear hb1 hbW c0 c3 hg1 hg2
  go_wp2_with fail
  rw [← eW.out]
  refine (SM.out _ _ hRW.out).mono ?_
  rintro e w3 ⟨rfl, rfl⟩
  go_wp2
  go_ret
  exact ⟨rfl, hb2.out⟩
theorem fp_box (w : World) (i s v t : Int) : ∃ V, V = (w.alloc (.cells #[.int .i64 i, .int .i64 s, .int .i64 v, .int .i64 t] 23)) ∧ Below w.heap.size w V ∧ V.heap.size = w.heap.size + 1 ∧ ∀ u, Below (w.heap.size + 1) V u → u.cell? ⟨w.heap.size, 0, none⟩ = some (.int .i64 i) ∧ u.cell? ⟨w.heap.size, 1, none⟩ = some (.int .i64 s) ∧ u.cell? ⟨w.heap.size, 2, none⟩ = some (.int .i64 v) ∧ u.cell? ⟨w.heap.size, 3, none⟩ = some (.int .i64 t) :=
  ⟨_, rfl, (by repeat (first | exact Below.refl _ _ | assumption | apply Below.drew | apply below_drewN | (refine Below.alloc ?_ (by first | exact Nat.le_refl _ | omega | (simp <;> omega)) _) | (refine Below.setCell ?_ (by first | exact Nat.le_refl _ | omega | (simp <;> omega)) _))), by simp, fun u hu => ⟨(bc hu (by omega)).trans (by go_simp), (bc hu (by omega)).trans (by go_simp), (bc hu (by omega)).trans (by go_simp), (bc hu (by omega)).trans (by go_simp)⟩⟩
set_option maxRecDepth 100000 in
set_option maxHeartbeats 8000000 in
theorem law_FramePuts (i s v t : Int) (w : World) : Calls Try.prog 3 #[.agg #[.int .i64 i, .int .i64 s, .int .i64 v, .int .i64 t]] w fun e w' => e = .returned (.bool true) ∧ Below w.heap.size w w' := by
  obtain ⟨V, eV, hb0, hz, hcs⟩ := fp_box w i s v t
  have LV := Lib.hid (fun u => lives12 u)
  have RF := fun u => rfright i s v t u
  have FF := fun u => fright i s v t u
  cases h : frB i s v t
  · rw [h] at RF FF
    have PT := Lib.hid (fun u => fput_no i s v t u h)
    replace RF := Lib.hid RF
    replace FF := Lib.hid FF
    clear h
    replace hb0 := Lib.hid hb0
    replace hz := Lib.hid hz
    replace hcs := Lib.hid hcs
    replace eV := Lib.hid eV
    go_enter Try.func3, Try.ntmps3
    go_wp2_with fail
    rw [← eV.out]
    obtain ⟨k0, k1, k2, k3⟩ := hcs.out _ (Below.refl _ _)
    go_wp2_with fail
    refine (PT.out _).mono ?_
    rintro e w1 ⟨rfl, hb1⟩
    have hb1 := (Below.refl (w.heap.size + 1) V).trans (hb1.mono (Nat.le_of_eq hz.out.symm))
    obtain ⟨k0, k1, k2, k3⟩ := hcs.out _ hb1
    go_wp2_with fail
    refine (RF.out _).mono ?_
    rintro e w2 ⟨rfl, hb2⟩
    have hb2 := hb1.trans (hb2.mono (by have := hb1.size; have := hz.out; omega))
    clear hb1
    obtain ⟨k0, k1, k2, k3⟩ := hcs.out _ hb2
    go_wp2_with fail
    refine (FF.out _).mono ?_
    rintro e w3 ⟨rfl, hb3⟩
    have hb3 := hb2.trans (hb3.mono (by have := hb2.size; have := hz.out; omega))
    clear hb2
    obtain ⟨k0, k1, k2, k3⟩ := hcs.out _ hb3
    go_wp2_with fail
    refine (LV.out _).mono ?_
    rintro e w20 ⟨rfl, hb20⟩
    have hb20 := hb3.trans (hb20.mono (by have := hb3.size; have := hz.out; omega))
    go_wp2
    go_ret
    exact ⟨rfl, hb0.out.trans (hb20.mono (by omega))⟩
  · rw [h] at RF FF
    have PT := Lib.hid (fun u => fput_ok i s v t u h)
    have RP := Lib.hid (fun u => rput_ok i s v t u h)
    have SA := Lib.hid (fun (g1 c1 g2 c2 : Nat) u (h1 : RowIs .u8 u (some ⟨g1, 0, none⟩) (puL i s v t)) (h2 : RowIs .u8 u (some ⟨g2, 0, none⟩) (puL i s v t)) => show Calls Try.prog 19 #[.slice (some ⟨g1, 0, none⟩) 8 c1, .slice (some ⟨g2, 0, none⟩) 8 c2] u _ from rsame12 (some ⟨g1, 0, none⟩) (some ⟨g2, 0, none⟩) c1 c2 (puL i s v t) u h1 h2 (by show 8 ≤ maxLen; decide))
    replace RF := Lib.hid RF
    replace FF := Lib.hid FF
    clear h
    replace hb0 := Lib.hid hb0
    replace hz := Lib.hid hz
    replace hcs := Lib.hid hcs
    replace eV := Lib.hid eV
    go_enter Try.func3, Try.ntmps3
    go_wp2_with fail
    rw [← eV.out]
    obtain ⟨k0, k1, k2, k3⟩ := hcs.out _ (Below.refl _ _)
    go_wp2_with fail
    refine (PT.out _).mono ?_
    rintro e w1 ⟨g1, c1, rfl, ho, hb1⟩
    have hr1 := (own_bytes ho (by decide) rfl).1
    clear ho
    have hb1 := (Below.refl (w.heap.size + 1) V).trans (hb1.mono (Nat.le_of_eq hz.out.symm))
    obtain ⟨k0, k1, k2, k3⟩ := hcs.out _ hb1
    replace hr1 := Lib.hid hr1
    go_wp2_with fail
    refine (RF.out _).mono ?_
    rintro e w2 ⟨rfl, hb2⟩
    have hr2 := Lib.hid (hr1.out.below hb2)
    clear hr1
    have hb2 := hb1.trans (hb2.mono (by have := hb1.size; have := hz.out; omega))
    clear hb1
    obtain ⟨k0, k1, k2, k3⟩ := hcs.out _ hb2
    go_wp2_with fail
    refine (FF.out _).mono ?_
    rintro e w3 ⟨rfl, hb3⟩
    have hr3 := Lib.hid (hr2.out.below hb3)
    clear hr2
    have hb3 := hb2.trans (hb3.mono (by have := hb2.size; have := hz.out; omega))
    clear hb2
    obtain ⟨k0, k1, k2, k3⟩ := hcs.out _ hb3
    go_wp2_with fail
    refine (RP.out _).mono ?_
    rintro e w4 ⟨g2, c2, rfl, ho, hb4⟩
    have hq := Lib.hid (own_bytes ho (by decide) rfl).1
    clear ho
    have hr4 := Lib.hid (hr3.out.below hb4)
    clear hr3
    have hb4 := hb3.trans (hb4.mono (by have := hb3.size; have := hz.out; omega))
    clear hb3
    obtain ⟨k0, k1, k2, k3⟩ := hcs.out _ hb4
    go_wp2_with fail
    refine (SA.out _ _ _ _ _ hr4.out hq.out).mono ?_
    rintro e w5 ⟨rfl, hb5⟩
    have hb5 := hb4.trans (hb5.mono (by have := hb4.size; have := hz.out; omega))
    clear hb4 hr4 hq
    go_wp2_with fail
    refine (LV.out _).mono ?_
    rintro e w20 ⟨rfl, hb20⟩
    have hb20 := hb5.trans (hb20.mono (by have := hb5.size; have := hz.out; omega))
    go_wp2
    go_ret
    exact ⟨rfl, hb0.out.trans (hb20.mono (by omega))⟩

theorem fk_box (w : World) (a b c d : Int) : ∃ V, V = (w.alloc (.cells #[.int .i64 a, .int .i64 b, .int .i64 c, .int .i64 d] 23)) ∧ Below w.heap.size w V ∧ V.heap.size = w.heap.size + 1 ∧ ∀ u, Below (w.heap.size + 1) V u → u.cell? ⟨w.heap.size, 0, none⟩ = some (.int .i64 a) ∧ u.cell? ⟨w.heap.size, 1, none⟩ = some (.int .i64 b) ∧ u.cell? ⟨w.heap.size, 2, none⟩ = some (.int .i64 c) ∧ u.cell? ⟨w.heap.size, 3, none⟩ = some (.int .i64 d) :=
  ⟨_, rfl, (by repeat (first | exact Below.refl _ _ | assumption | apply Below.drew | apply below_drewN | (refine Below.alloc ?_ (by first | exact Nat.le_refl _ | omega | (simp <;> omega)) _) | (refine Below.setCell ?_ (by first | exact Nat.le_refl _ | omega | (simp <;> omega)) _))), by simp, fun u hu => ⟨(bc hu (by omega)).trans (by go_simp), (bc hu (by omega)).trans (by go_simp), (bc hu (by omega)).trans (by go_simp), (bc hu (by omega)).trans (by go_simp)⟩⟩
set_option maxRecDepth 100000 in
set_option maxHeartbeats 8000000 in
theorem law_FrameTakes (a : Option Addr) (cap : Nat) (l : List Int) (w : World) (hr : RowIs .u8 w a l) (hL : l.length ≤ maxLen) (hB : BYT l) : Calls Try.prog 4 #[.slice a l.length cap] w fun e w' => e = .returned (.bool true) ∧ Below w.heap.size w w' := by
  have LV := Lib.hid (fun u => lives12 u)
  have FT := Lib.hid (fun u (h : Below w.heap.size w u) => ftake a cap l u (hr.below h) hL hB)
  have RT := Lib.hid (fun u (h : Below w.heap.size w u) => rtake a cap l u (hr.below h) hL hB)
  clear hr hL hB
  generalize tkI l = x0 at *
  generalize tkS l = x1 at *
  generalize tkV l = x2 at *
  generalize tkT l = x3 at *
  generalize tkE l = x4 at *
  go_enter Try.func4, Try.ntmps4
  go_wp2_with fail
  refine (FT.out _ (Below.refl _ _)).mono ?_
  rintro e w1 ⟨rfl, hb1⟩
  go_upto_region 2 with (fail)
  obtain ⟨V1, eV1, hm1, hz1, hcs1⟩ := fk_box w1 x0 x1 x2 x3
  rw [← eV1]
  have hb2 := hb1.trans (hm1.mono hb1.size)
  replace eV1 := Lib.hid eV1
  replace hcs1 := Lib.hid hcs1
  go_wp2_with fail
  refine (RT.out _ hb2).mono ?_
  rintro e w3 ⟨rfl, hb3⟩
  have hj3 := (Below.refl (w1.heap.size + 1) V1).trans (hb3.mono (by omega))
  have hb4 := hb2.trans (hb3.mono hb2.size)
  clear hb3
  replace hm1 := Lib.hid hm1
  replace hz1 := Lib.hid hz1
  go_upto_region 3 with (fail)
  obtain ⟨V2, eV2, hm2, hz2, hcs2⟩ := fk_box w3 x0 x1 x2 x3
  rw [← eV2]
  have hb5 := hb4.trans (hm2.mono hb4.size)
  obtain ⟨j0, j1, j2, j3⟩ := hcs1.out _ (hj3.trans (hm2.mono (by have := hj3.size; have := hz1.out; omega)))
  obtain ⟨i0, i1, i2, i3⟩ := hcs2 _ (Below.refl _ _)
  replace eV2 := Lib.hid eV2
  replace hb5 := Lib.hid hb5
  clear hb1 hb2 hb4 hj3 hm2 hz2 hcs2
  go_wp2_with fail
  refine (LV.out _).mono ?_
  rintro e w20 ⟨rfl, hb20⟩
  have hb9 := Lib.hid (hb5.out.trans (hb20.mono hb5.out.size))
  clear hb20
  go_wp2
  go_ret
  exact ⟨rfl, hb9.out⟩
end Go.Proofs.Ytflcagcekhgjcaa
