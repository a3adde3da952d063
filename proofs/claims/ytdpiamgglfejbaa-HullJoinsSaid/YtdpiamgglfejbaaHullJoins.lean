/- The law HullJoins, walked. -/
import Derived.Test.YtdpiamgglfejbaaHullLaws
namespace Go.Proofs.Ytdpiamgglfejbaa
open Go.ChangeShapes Go.WideShapes Go.ChangeAt Go.RowKit
set_option linter.unusedVariables false

theorem joins_plain (a b c d v : Int) : (decide (a ≤ v ∧ v ≤ b) = true ∨ decide (c ≤ v ∧ v ≤ d) = true → decide (joinL a b c d ≤ v ∧ v ≤ joinH a b c d) = true) ∧
    (decide (a ≤ v ∧ v ≤ b) && decide (c ≤ v ∧ v ≤ d)) = (meetB a b c d && decide (meetL a b c d ≤ v ∧ v ≤ meetH a b c d)) := by
  refine ⟨?_, ?_⟩
  · simp only [decide_eq_true_eq]
    unfold joinL joinH
    omega
  · rw [Bool.eq_iff_iff]
    simp only [Bool.and_eq_true, decide_eq_true_eq, meetB]
    unfold meetL meetH
    omega
theorem joins_wide (a b v n : Int) (h : decide (a ≤ v ∧ v ≤ b) = true) (h1 : -1099511627776 ≤ v) (h2 : v ≤ 1099511627776) : decide (widL a b n ≤ v ∧ v ≤ widH a b n) = true := by
  have hb := widB_bd n
  simp only [decide_eq_true_eq] at *
  unfold widL widH cle
  omega

set_option maxHeartbeats 4000000 in
theorem law_HullJoins (a b c d v n : Int) (w : World) : Calls Try.prog 14 #[.agg #[.int .i64 a, .int .i64 b, .int .i64 c, .int .i64 d], .int .i64 v, .int .i64 n] w fun e w' => e = .returned (.bool true) ∧ Below w.heap.size w w' := by
  obtain ⟨pj, pm⟩ := joins_plain a b c d v
  have HWd := Lib.hid (joins_wide a b v n)
  have C1 := Lib.hid (fun W => has_any a b v W)
  have C2 := Lib.hid (fun W => has_any c d v W)
  have C3 := Lib.hid (fun W => has_any (joinL a b c d) (joinH a b c d) v W)
  have C4 := Lib.hid (fun W => has_any (meetL a b c d) (meetH a b c d) v W)
  have C5 := Lib.hid (fun W => has_any (widL a b n) (widH a b n) v W)
  have J := Lib.hid (fun W => join_any a b c d W)
  have M := Lib.hid (fun W => meet_any a b c d W)
  have D := Lib.hid (fun W => widen_any a b n W)
  generalize decide (a ≤ v ∧ v ≤ b) = H1 at *
  generalize decide (c ≤ v ∧ v ≤ d) = H2 at *
  generalize decide (joinL a b c d ≤ v ∧ v ≤ joinH a b c d) = HJ at *
  generalize decide (meetL a b c d ≤ v ∧ v ≤ meetH a b c d) = HM at *
  generalize decide (widL a b n ≤ v ∧ v ≤ widH a b n) = HN at *
  generalize joinL a b c d = jl at *
  generalize joinH a b c d = jh at *
  generalize meetL a b c d = ml at *
  generalize meetH a b c d = mh at *
  generalize meetB a b c d = mb at *
  generalize widL a b n = wl at *
  generalize widH a b n = wh at *
  go_enter Try.func14, Try.ntmps14
  go_wp2_with fail
  refine (J.out _).mono ?_
  rintro e x1 ⟨rfl, hb1⟩
  have j0 : x1.cell? ⟨w.heap.size, 0, none⟩ = some (.int .i64 a) := by rw [bc hb1 (by simp)]; simp
  have j1 : x1.cell? ⟨w.heap.size, 1, none⟩ = some (.int .i64 b) := by rw [bc hb1 (by simp)]; simp
  have j2 : x1.cell? ⟨w.heap.size, 2, none⟩ = some (.int .i64 c) := by rw [bc hb1 (by simp)]; simp
  have j3 : x1.cell? ⟨w.heap.size, 3, none⟩ = some (.int .i64 d) := by rw [bc hb1 (by simp)]; simp
  have hz1 : w.heap.size < x1.heap.size := by have := hb1.size; simp at this; omega
  have hbw : Below w.heap.size w x1 := Below.trans (by repeat (first | exact Below.refl _ _ | assumption | apply Below.drew | (refine Below.alloc ?_ (by first | exact Nat.le_refl _ | omega | (simp <;> omega)) _) | (refine Below.setCell ?_ (by first | exact Nat.le_refl _ | omega | (simp <;> omega)) _))) (hb1.mono (by simp))
  clear hb1
  go_wp2_with fail
  refine (M.out _).mono ?_
  rintro e x2 ⟨rfl, hb2⟩
  have k0 : x2.cell? ⟨w.heap.size, 0, none⟩ = some (.int .i64 a) := by rw [bc hb2 (by simp; omega), World.cell?_alloc_past _ _ _ hz1, j0]
  have k1 : x2.cell? ⟨w.heap.size, 1, none⟩ = some (.int .i64 b) := by rw [bc hb2 (by simp; omega), World.cell?_alloc_past _ _ _ hz1, j1]
  have k2 : x2.cell? ⟨w.heap.size, 2, none⟩ = some (.int .i64 c) := by rw [bc hb2 (by simp; omega), World.cell?_alloc_past _ _ _ hz1, j2]
  have k3 : x2.cell? ⟨w.heap.size, 3, none⟩ = some (.int .i64 d) := by rw [bc hb2 (by simp; omega), World.cell?_alloc_past _ _ _ hz1, j3]
  have k4 : x2.cell? ⟨x1.heap.size, 0, none⟩ = some (.int .i64 jl) := by rw [bc hb2 (by simp)]; simp
  have k5 : x2.cell? ⟨x1.heap.size, 1, none⟩ = some (.int .i64 jh) := by rw [bc hb2 (by simp)]; simp
  have hz2 : x1.heap.size < x2.heap.size := by have := hb2.size; simp at this; omega
  have hbw2 : Below w.heap.size w x2 := Below.trans (Below.alloc hbw (by omega) _) (hb2.mono (by simp; omega))
  clear hb2 hbw j0 j1 j2 j3
  go_wp2_with fail
  have hb0 : Below x2.heap.size x2 (x2.alloc (.cells #[.int .i64 ml, .int .i64 mh] 60)) := (by repeat (first | exact Below.refl _ _ | assumption | apply Below.drew | (refine Below.alloc ?_ (by first | exact Nat.le_refl _ | omega | (simp <;> omega)) _) | (refine Below.setCell ?_ (by first | exact Nat.le_refl _ | omega | (simp <;> omega)) _)))
  have hz0 : x2.heap.size + 1 ≤ (x2.alloc (.cells #[.int .i64 ml, .int .i64 mh] 60)).heap.size := by first | (simp; done) | (simp; omega)
  have c0_0 : World.cell? (x2.alloc (.cells #[.int .i64 ml, .int .i64 mh] 60)) ⟨x2.heap.size, 0, none⟩ = some (.int .i64 ml) := by first | (simp; done) | go_simp
  have c0_1 : World.cell? (x2.alloc (.cells #[.int .i64 ml, .int .i64 mh] 60)) ⟨x2.heap.size, 1, none⟩ = some (.int .i64 mh) := by first | (simp; done) | go_simp
  have f0_0 : World.frozen? (x2.alloc (.cells #[.int .i64 ml, .int .i64 mh] 60)) ⟨x2.heap.size, 0, none⟩ = false := by first | (simp; done) | go_simp
  have f0_1 : World.frozen? (x2.alloc (.cells #[.int .i64 ml, .int .i64 mh] 60)) ⟨x2.heap.size, 1, none⟩ = false := by first | (simp; done) | go_simp
  generalize (x2.alloc (.cells #[.int .i64 ml, .int .i64 mh] 60)) = u at hb0 hz0 c0_0 c0_1 f0_0 f0_1 ⊢
  have l0 := (bc hb0 (b := w.heap.size) (o := 0) (by omega)).trans k0
  have l1 := (bc hb0 (b := w.heap.size) (o := 1) (by omega)).trans k1
  have l2 := (bc hb0 (b := w.heap.size) (o := 2) (by omega)).trans k2
  have l3 := (bc hb0 (b := w.heap.size) (o := 3) (by omega)).trans k3
  have l4 := (bc hb0 (b := x1.heap.size) (o := 0) (by omega)).trans k4
  have l5 := (bc hb0 (b := x1.heap.size) (o := 1) (by omega)).trans k5
  go_region_held3 (fun w' => w'.cell? ⟨w.heap.size, 0, none⟩ = some (.int .i64 a) ∧ w'.cell? ⟨w.heap.size, 1, none⟩ = some (.int .i64 b) ∧ w'.cell? ⟨w.heap.size, 2, none⟩ = some (.int .i64 c) ∧ w'.cell? ⟨w.heap.size, 3, none⟩ = some (.int .i64 d))
    (first | exact ⟨l0, l1, l2, l3⟩ | exact ⟨(bc hb1 (by omega)).trans l0, (bc hb1 (by omega)).trans l1, (bc hb1 (by omega)).trans l2, (bc hb1 (by omega)).trans l3⟩)
    (first | (go_at_call 46; (with_reducible refine (anch (v := u) (C1.out _) (by first | assumption | exact Below.refl _ _ | exact (Below.refl _ _).drew)).mono ?_); rintro e w1 ⟨rfl, hb1⟩) | (go_at_call 46; (with_reducible refine (anch (v := u) (C2.out _) (by first | assumption | exact Below.refl _ _ | exact (Below.refl _ _).drew)).mono ?_); rintro e w1 ⟨rfl, hb1⟩))
  have hbu : Below w.heap.size w u := hbw2.trans (hb0.mono (by omega))
  have z1 : w.heap.size < u.heap.size := by omega
  have z2 : x1.heap.size < u.heap.size := by omega
  have z3 : x2.heap.size < u.heap.size := by omega
  clear hb0 hz0 hz1 hz2 k0 k1 k2 k3 k4 k5 f0_0 f0_1 hbw2 J M C1 C2
  obtain ⟨hc1, hf1⟩ := bcell hb1
  cases H1 <;> cases H2 <;> cases mb <;> cases HM
  all_goals first | (exfalso; simp at pm; done) | skip
  all_goals
    have pj' : Hid (_ → HJ = true) := pj
    clear pj pm
    first | (have hj := pj'.out (.inl rfl); subst hj) | (have hj := pj'.out (.inr rfl); subst hj) | skip
    clear pj'
    by_cases v1 : v < -1099511627776
    all_goals
      by_cases v2 : 1099511627776 < v
      all_goals try (exfalso; omega)
      all_goals
        first | (have hw := HWd.out rfl (by omega) (by omega); subst hw) | skip
        clear HWd
        go_wp2_with (first | (go_at_call 46; (with_reducible refine (anch (v := u) (C3.out _) (by assumption)).mono ?_); rintro e w3 ⟨rfl, hb3⟩; obtain ⟨hc3, hf3⟩ := bcell hb3) | (go_at_call 46; (with_reducible refine (anch (v := u) (C4.out _) (by assumption)).mono ?_); rintro e w3 ⟨rfl, hb3⟩; obtain ⟨hc3, hf3⟩ := bcell hb3) | (go_at_call 49; (with_reducible refine (anch (v := u) (D.out _) (by assumption)).mono ?_); rintro e w3 ⟨rfl, hb3⟩; obtain ⟨hc3, hf3⟩ := bcell hb3) | (go_at_call 46; (with_reducible refine (anch (v := u) (C5.out _) (by assumption)).mono ?_); rintro e w3 ⟨rfl, hb3⟩; obtain ⟨hc3, hf3⟩ := bcell hb3) | (go_at_call 42; refine (anch (v := u) (lives35 _) (by assumption)).mono ?_; rintro e w3 ⟨rfl, hb3⟩))
        go_ret
        exact ⟨rfl, hbu.trans (hb3.mono (by omega))⟩
end Go.Proofs.Ytdpiamgglfejbaa
