/- The document's pressures; the chapter's example; walked. -/
import Derived.Test.YticecjjlafmclaaSsec8
import Derived.Test.YticecjjlafmclaaClip09
import Derived.Deep.Cut
namespace Go.Proofs.Yticecjjlafmclaa
open Go.ChangeShapes Go.WideShapes Go.ChangeAt Go.RowKit
set_option linter.unusedVariables false
set_option linter.unusedSimpArgs false
set_option maxRecDepth 100000 in
set_option maxHeartbeats 8000000 in
theorem ssabs (n : Int) (w : World) (h : -4611686018427387904 ≤ n) : Calls Try.prog 29 #[.int .i64 n] w fun e w' => e = .returned (.int .i64 (if n < 0 then -n else n)) ∧ w = w' := by
  have hw : n < 0 → IntKind.i64.wrap (-n) = -n := fun h1 => IntWalk.i64_in _ ⟨by omega, by omega⟩
  rcases (show n < 0 ∨ 0 ≤ n by omega) with h1 | h1
  · have hw := hw h1
    rw [if_pos h1]
    go_enter Try.func29, Try.ntmps29
    go_wp2
    go_ret
    exact ⟨rfl, rfl⟩
  · clear hw
    rw [if_neg (by omega)]
    go_enter Try.func29, Try.ntmps29
    go_wp2
    go_ret
    exact ⟨rfl, rfl⟩
theorem ss9_box (w : World) (a1 a2 a3 : Option Addr) (e1 e2 e3 : Nat) (X Y : List Int) (Z : List (List Int)) : ∃ V, V = (w.alloc (.cells #[.slice a1 X.length e1, .slice a2 Y.length e2, .slice a3 Z.length e3] 26)) ∧ Below w.heap.size w V ∧ V.heap.size = w.heap.size + 1 ∧ ∀ u, Below (w.heap.size + 1) V u → u.cell? ⟨w.heap.size, 0, none⟩ = some (.slice a1 X.length e1) ∧ u.cell? ⟨w.heap.size, 1, none⟩ = some (.slice a2 Y.length e2) ∧ u.cell? ⟨w.heap.size, 2, none⟩ = some (.slice a3 Z.length e3) :=
  ⟨_, rfl, (by repeat (first | exact Below.refl _ _ | assumption | apply Below.drew | apply below_drewN | (refine Below.alloc ?_ (by first | exact Nat.le_refl _ | omega | (simp <;> omega)) _) | (refine Below.setCell ?_ (by first | exact Nat.le_refl _ | omega | (simp <;> omega)) _))), by simp, fun u hu => ⟨(bc hu (by omega)).trans (by go_simp), (bc hu (by omega)).trans (by go_simp), (bc hu (by omega)).trans (by go_simp)⟩⟩
theorem ssx_box (w : World) (a1 a2 a3 : Option Addr) (e1 e2 e3 : Nat) (X Y : List Int) (Z : List (List Int)) (q p al : Int) : ∃ V, V = ((w.alloc (.cells #[.slice a1 X.length e1, .slice a2 Y.length e2, .slice a3 Z.length e3] 26)).alloc (.cells #[.int .i64 q, .int .i64 p, .int .i64 al] 22)) ∧ Below w.heap.size w V ∧ V.heap.size = w.heap.size + 2 ∧ ∀ u, Below (w.heap.size + 2) V u → u.cell? ⟨w.heap.size, 0, none⟩ = some (.slice a1 X.length e1) ∧ u.cell? ⟨w.heap.size, 1, none⟩ = some (.slice a2 Y.length e2) ∧ u.cell? ⟨w.heap.size, 2, none⟩ = some (.slice a3 Z.length e3) ∧ u.cell? ⟨w.heap.size + 1, 0, none⟩ = some (.int .i64 q) ∧ u.cell? ⟨w.heap.size + 1, 1, none⟩ = some (.int .i64 p) ∧ u.cell? ⟨w.heap.size + 1, 2, none⟩ = some (.int .i64 al) :=
  ⟨_, rfl, (by repeat (first | exact Below.refl _ _ | assumption | apply Below.drew | apply below_drewN | (refine Below.alloc ?_ (by first | exact Nat.le_refl _ | omega | (simp <;> omega)) _) | (refine Below.setCell ?_ (by first | exact Nat.le_refl _ | omega | (simp <;> omega)) _))), by simp, fun u hu => ⟨(bc hu (by omega)).trans (by go_simp), (bc hu (by omega)).trans (by go_simp), (bc hu (by omega)).trans (by go_simp), (bc hu (by omega)).trans (by go_simp), (bc hu (by omega)).trans (by go_simp), (bc hu (by omega)).trans (by go_simp)⟩⟩
theorem lv38 : stF flX flY (flN 640) (clQ 1000) (clP 5000000) 0 (1 : Int).toNat = 4999360 := by
  show max (clP 5000000 - erF flX flY (flN 640) (clQ 1000) (clP 5000000) 0 (stF flX flY (flN 640) (clQ 1000) (clP 5000000) 0 0)) 1 = 4999360
  rw [erF_const (scB_sh fl640) (flN_all 640)]
  decide
set_option maxRecDepth 100000 in
set_option maxHeartbeats 8000000 in
theorem lives38 (w : World) : Calls Try.prog 12 #[] w fun e w' => e = .returned (.bool true) ∧ Below w.heap.size w w' := by
  have AT := fun g1 g2 g3 g4 g5 u h1 h2 h3 => sscstat (some ⟨g1, 0, none⟩) (some ⟨g2, 0, none⟩) (some ⟨g3, 0, none⟩) (two (some ⟨g4, 0, none⟩) (some ⟨g5, 0, none⟩)) (fun _ => 2) 2 2 2 flX flY (flN 640) 1 1000 5000000 0 u h1 h2 h3 (by decide) (by decide) (by decide) (by decide)
  rw [fl640, if_pos rfl, lv38] at AT
  replace AT : ∀ g1 g2 g3 g4 g5 u, RowIs .i64 u (some ⟨g1, 0, none⟩) flX → RowIs .i64 u (some ⟨g2, 0, none⟩) flY → GridIs .i64 u (some ⟨g3, 0, none⟩) (two (some ⟨g4, 0, none⟩) (some ⟨g5, 0, none⟩)) (fun _ => 2) (flN 640) → Calls Try.prog 33 #[.agg #[.slice (some ⟨g1, 0, none⟩) 2 2, .slice (some ⟨g2, 0, none⟩) 2 2, .slice (some ⟨g3, 0, none⟩) 2 2, .int .i64 1], .int .i64 1000, .int .i64 5000000, .int .i64 0] u fun e w' => e = .returned (.tuple #[.int .i64 4999360, .bool true]) ∧ Below u.heap.size u w' := AT
  replace AT := Lib.hid AT
  have FL := Lib.hid (fun u => sscflat 640 u)
  go_enter Try.func12, Try.ntmps12
  go_wp2_with fail
  refine (FL.out _).mono ?_
  rintro e w1 ⟨g1, g2, g3, g4, g5, rfl, h1, h2, h3, hb1⟩
  replace h1 := Lib.hid h1
  replace h2 := Lib.hid h2
  replace h3 := Lib.hid h3
  go_wp2_with fail
  refine (AT.out _ _ _ _ _ _ h1.out h2.out h3.out).mono ?_
  rintro e w2 ⟨rfl, hb2⟩
  have hb2 := Lib.hid (hb1.trans (hb2.mono hb1.size))
  clear hb1
  go_wp2
  go_ret
  exact ⟨rfl, hb2.out⟩
end Go.Proofs.Yticecjjlafmclaa
