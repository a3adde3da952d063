/- Chapter 5: its example, how great a curve is; the law CurveBetween, walked. -/
import Derived.Test.YtmmenpaodofahaaCurve6
import Derived.Deep.Cut
import Derived.Test.YtmmenpaodofahaaCurve7
namespace Go.Proofs.Ytmmenpaodofahaa
open Go.ChangeShapes Go.WideShapes Go.ChangeAt Go.RowKit
set_option linter.unusedVariables false
set_option linter.unusedSimpArgs false
set_option maxRecDepth 100000 in
set_option maxHeartbeats 8000000 in
theorem cgreat_any (ax ay : Option Addr) (cx cy : Nat) (X Y : List Int) (w : World) : Calls Try.prog 15 #[.agg #[.slice ax X.length cx, .slice ay Y.length cy]] w fun e w' => e = .returned (.bool (decide (300 < X.length) || decide (300 < Y.length))) ∧ Below w.heap.size w w' := by
  have dx : decide ((300 : Int) < (X.length : Int)) = decide (300 < X.length) := by simp; omega
  have dy : decide ((300 : Int) < (Y.length : Int)) = decide (300 < Y.length) := by simp; omega
  obtain ⟨p, hp⟩ : ∃ p, p = decide (300 < X.length) := ⟨_, rfl⟩
  obtain ⟨q, hq⟩ : ∃ q, q = decide (300 < Y.length) := ⟨_, rfl⟩
  rw [← hp] at dx ⊢
  rw [← hq] at dy ⊢
  clear hp hq
  obtain ⟨V, eV, hb0, hz, hcs⟩ := crv_box w ax ay cx cy X Y
  replace hb0 := Lib.hid hb0
  replace hz := Lib.hid hz
  replace hcs := Lib.hid hcs
  replace eV := Lib.hid eV
  cases p
  · rw [Bool.false_or]
    go_enter Try.func15, Try.ntmps15
    go_wp2_with fail
    rw [← eV.out]
    obtain ⟨k0, k1⟩ := hcs.out _ (Below.refl _ _)
    go_wp2
    go_ret
    exact ⟨by first | rfl | (simp [dx, dy]; done) | (rw [dx, dy]; rfl), hb0.out⟩
  · rw [Bool.true_or]
    go_enter Try.func15, Try.ntmps15
    go_wp2_with fail
    rw [← eV.out]
    obtain ⟨k0, k1⟩ := hcs.out _ (Below.refl _ _)
    go_wp2
    go_ret
    exact ⟨by first | rfl | (simp [dx, dy]; done) | (rw [dx, dy]; rfl), hb0.out⟩
set_option maxRecDepth 100000 in
set_option maxHeartbeats 8000000 in
theorem row2_at {W : World} {b : Nat} {p q : Int} (hb : b < W.heap.size) (h0 : W.cell? ⟨b, 0, none⟩ = some (.int .i64 p)) (h1 : W.cell? ⟨b, 1, none⟩ = some (.int .i64 q)) : RowIs .i64 W (some ⟨b, 0, none⟩) [p, q] :=
  .inr ⟨b, 0, rfl, hb, fun i hi => by
    rcases i with _ | _ | i
    · exact h0
    · exact h1
    · have h2 : i + 1 + 1 < 2 := hi
      omega⟩
theorem k_five : CrK [0, 10] 3 1 := by
  refine ⟨by decide, fun t ht => ?_, fun t a b => ?_⟩
  · obtain rfl : t = 0 := by omega
    decide
  · have b' : t < 2 := b
    obtain rfl : t = 1 := by omega
    decide
set_option maxRecDepth 100000 in
set_option maxHeartbeats 8000000 in
theorem lives05 (w : World) : Calls Try.prog 16 #[] w fun e w' => e = .returned (.bool true) ∧ Below w.heap.size w w' := by
  have AT := fun ax ay cx cy u hx hy => cat5_any ax ay cx cy [0, 10] [0, 5] 3 1 u hx hy (by decide) (by decide) (fun _ => k_five)
  rw [show rgtB [0, 10] [0, 5] = true by decide +kernel, if_pos rfl, show crV [0, 10] [0, 5] 3 1 = 1 by decide +kernel] at AT
  replace AT : ∀ ax ay cx cy u, RowIs .i64 u ax [0, 10] → RowIs .i64 u ay [0, 5] → Calls Try.prog 17 #[.agg #[.slice ax 2 cx, .slice ay 2 cy], .int .i64 3] u fun e w' => e = .returned (.tuple #[.int .i64 1, .bool true]) ∧ Below u.heap.size u w' := AT
  replace AT := Lib.hid AT
  go_enter Try.func16, Try.ntmps16
  go_wp2_with fail
  refine (AT.out _ _ _ _ _ (row2_at (by simp; omega) (by go_simp) (by go_simp)) (row2_at (by simp) (by go_simp) (by go_simp))).mono ?_
  rintro e w1 ⟨rfl, hb1⟩
  go_wp2
  go_ret
  exact ⟨rfl, (((Below.refl w.heap.size w).alloc (Nat.le_refl _) _).alloc (by simp) _).trans (hb1.mono (by simp; try omega))⟩
end Go.Proofs.Ytmmenpaodofahaa
