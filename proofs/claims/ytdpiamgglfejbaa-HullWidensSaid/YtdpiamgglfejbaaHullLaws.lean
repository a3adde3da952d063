/- The laws HullWidens and HullJoins, walked. -/
import Derived.Test.YtdpiamgglfejbaaHull2
import Derived.Test.YtdpiamgglfejbaaHullOf
namespace Go.Proofs.Ytdpiamgglfejbaa
open Go.ChangeShapes Go.WideShapes Go.ChangeAt Go.RowKit
set_option linter.unusedVariables false

def cl3 (n lo hi : Int) : Int := if n < lo then lo else if hi < n then hi else n
set_option maxHeartbeats 400000 in
theorem r09clip_any (n lo hi : Int) (w : World) (h : lo ≤ hi) : Calls Try.prog 50 #[.int .i64 n, .int .i64 lo, .int .i64 hi] w fun e w' => e = .returned (.int .i64 (cl3 n lo hi)) ∧ w = w' := by
  go_enter Try.func50, Try.ntmps50
  go_wp2
  all_goals
    go_ret
    exact ⟨ret_int (by unfold cl3; omega), rfl⟩

set_option maxHeartbeats 1000000 in
theorem law_HullWidens (a b n : Int) (w : World) : Calls Try.prog 13 #[.agg #[.int .i64 a, .int .i64 b], .int .i64 n] w fun e w' => e = .returned (.bool true) ∧ Below w.heap.size w w' := by
  by_cases h1 : b < a
  · have e1 : widL a b n = a := by unfold widL; omega
    have e2 : widH a b n = b := by unfold widH; omega
    have dab : decide (a ≤ b) = false := by simp; omega
    have HC := Lib.hid (fun v => widen_any a b n v)
    rw [e1, e2] at HC
    clear e1 e2
    go_enter Try.func13, Try.ntmps13
    go_wp2_with fail
    refine (HC.out _).mono ?_
    rintro e w1 ⟨rfl, hb1⟩
    obtain ⟨hc1, hf1⟩ := bcell hb1
    have hz1 : w.heap.size < w1.heap.size := by have := hb1.size; simp at this; omega
    have hbw : Below w.heap.size w w1 := Below.trans (by repeat (first | exact Below.refl _ _ | assumption | apply Below.drew | (refine Below.alloc ?_ (by first | exact Nat.le_refl _ | omega | (simp <;> omega)) _) | (refine Below.setCell ?_ (by first | exact Nat.le_refl _ | omega | (simp <;> omega)) _))) (hb1.mono (by simp))
    go_wp2_with fail
    refine (lright_any _ _ _).mono ?_
    rintro e w2 ⟨rfl, hb2⟩
    rw [dab]
    obtain ⟨hc2, hf2⟩ := bcell hb2
    have hz2 : w1.heap.size < w2.heap.size := by have := hb2.size; simp at this; omega
    have hbw2 : Below w.heap.size w w2 := Below.trans (Below.alloc hbw (by omega) _) (hb2.mono (by simp; omega))
    clear hb1 hb2 hbw
    go_wp2_with (go_at_call 42; refine (lives35 _).mono ?_; rintro e w1 ⟨rfl, hlv⟩)
    go_ret
    exact ⟨rfl, hbw2.trans (hlv.mono hbw2.size)⟩
  · have e1 : widL a b n = cle a - widB n := by unfold widL; omega
    have e2 : widH a b n = cle b + widB n := by unfold widH; omega
    have dab : decide (a ≤ b) = true := by simp; omega
    have HC := Lib.hid (fun v => widen_any a b n v)
    rw [e1, e2] at HC
    clear e1 e2
    have ba := cle_bd a
    have bb := cle_bd b
    have bn := widB_bd n
    have q1 : ∀ v, Calls Try.prog 50 #[.int .i64 a, .int .i64 (-1099511627776), .int .i64 1099511627776] v fun e w' => e = .returned (.int .i64 (cle a)) ∧ v = w' := fun v => r09clip_any a _ _ v (by omega)
    have q2 : ∀ v, Calls Try.prog 50 #[.int .i64 b, .int .i64 (-1099511627776), .int .i64 1099511627776] v fun e w' => e = .returned (.int .i64 (cle b)) ∧ v = w' := fun v => r09clip_any b _ _ v (by omega)
    have q3 : ∀ v, Calls Try.prog 50 #[.int .i64 n, .int .i64 0, .int .i64 1099511627776] v fun e w' => e = .returned (.int .i64 (widB n)) ∧ v = w' := fun v => by
      rw [show widB n = cl3 n 0 1099511627776 from by unfold widB cl3 cle; omega]
      exact r09clip_any n _ _ v (by omega)
    have Q1 := Lib.hid q1
    have Q2 := Lib.hid q2
    have Q3 := Lib.hid q3
    clear q1 q2 q3
    go_enter Try.func13, Try.ntmps13
    go_wp2_with fail
    refine (HC.out _).mono ?_
    rintro e w1 ⟨rfl, hb1⟩
    obtain ⟨hc1, hf1⟩ := bcell hb1
    have hz1 : w.heap.size < w1.heap.size := by have := hb1.size; simp at this; omega
    have hbw : Below w.heap.size w w1 := Below.trans (by repeat (first | exact Below.refl _ _ | assumption | apply Below.drew | (refine Below.alloc ?_ (by first | exact Nat.le_refl _ | omega | (simp <;> omega)) _) | (refine Below.setCell ?_ (by first | exact Nat.le_refl _ | omega | (simp <;> omega)) _))) (hb1.mono (by simp))
    go_wp2_with fail
    refine (lright_any _ _ _).mono ?_
    rintro e w2 ⟨rfl, hb2⟩
    rw [dab]
    obtain ⟨hc2, hf2⟩ := bcell hb2
    have hz2 : w1.heap.size < w2.heap.size := by have := hb2.size; simp at this; omega
    have hbw2 : Below w.heap.size w w2 := Below.trans (Below.alloc hbw (by omega) _) (hb2.mono (by simp; omega))
    clear hb1 hb2 hbw
    go_wp2_with (go_at_call 50; (with_reducible refine (Q3.out _).mono ?_); rintro e w1 ⟨rfl, rfl⟩)
    have k0 : w2.cell? ⟨w.heap.size, 0, none⟩ = some (.int .i64 a) := by rw [hc2 _ _ (by simp; omega), World.cell?_alloc_past _ _ _ hz1, hc1 _ _ (by simp)]; simp
    have k1 : w2.cell? ⟨w.heap.size, 1, none⟩ = some (.int .i64 b) := by rw [hc2 _ _ (by simp; omega), World.cell?_alloc_past _ _ _ hz1, hc1 _ _ (by simp)]; simp
    have k2 : w2.cell? ⟨w1.heap.size, 0, none⟩ = some (.int .i64 (cle a - widB n)) := by rw [hc2 _ _ (by simp)]; simp
    have k3 : w2.cell? ⟨w1.heap.size, 1, none⟩ = some (.int .i64 (cle b + widB n)) := by rw [hc2 _ _ (by simp)]; simp
    clear hc1 hc2 hf1 hf2
    have ew1 : IntKind.i64.wrap (cle a - widB n) = cle a - widB n := IntWalk.i64_in _ (by omega)
    have ew2 : IntKind.i64.wrap (cle b + widB n) = cle b + widB n := IntWalk.i64_in _ (by omega)
    have ew0 : IntKind.i64.wrap (-1099511627776) = -1099511627776 := IntWalk.i64_in _ (by omega)
    go_region_held3 (fun w' => w'.cell? ⟨w.heap.size, 0, none⟩ = some (.int .i64 a) ∧ w'.cell? ⟨w.heap.size, 1, none⟩ = some (.int .i64 b) ∧ w'.cell? ⟨w1.heap.size, 0, none⟩ = some (.int .i64 (cle a - widB n)) ∧ w'.cell? ⟨w1.heap.size, 1, none⟩ = some (.int .i64 (cle b + widB n)))
      (first | exact ⟨k0, k1, k2, k3⟩ | exact ⟨(bc hb1 (by omega)).trans k0, (bc hb1 (by omega)).trans k1, (bc hb1 (by omega)).trans k2, (bc hb1 (by omega)).trans k3⟩)
      (first | (go_at_call 50; (with_reducible refine (Q1.out _).mono ?_); rintro e w' ⟨rfl, rfl⟩) | (go_at_call 50; (with_reducible refine (Q2.out _).mono ?_); rintro e w' ⟨rfl, rfl⟩) | (go_at_call 42; refine (anch (v := w2) (lives35 _) (by first | assumption | exact Below.refl _ _ | exact (Below.refl _ _).drew)).mono ?_; rintro e w1 ⟨rfl, hb1⟩))
    go_wp2
    go_ret
    exact ⟨rfl, hbw2.trans (hb1.mono hbw2.size)⟩
end Go.Proofs.Ytdpiamgglfejbaa
