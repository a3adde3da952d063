/- Contracts of package alert (Right, after, Next, clip) and of the document's answers. -/
import Derived.Test.YtmoamadpaepcfaaAtom
import Derived.Test.YtmoamadpaepcfaaBeside
namespace Go.Proofs.Ytmoamadpaepcfaa
open Go.ChangeShapes Go.WideShapes Go.ChangeAt Go.RowKit
set_option linter.unusedVariables false

def alR (h wn nr : Int) : Bool := decide (1 ≤ h) && decide (h < wn) && decide (wn < nr) && decide (nr ≤ 1000000)
theorem alR_ok {h wn nr : Int} (k : alR h wn nr = true) : 1 ≤ h ∧ h < wn ∧ wn < nr ∧ nr ≤ 1000000 := by
  unfold alR at k
  simp at k
  omega
def nxt (st d h wn nr : Int) : Int := if d ≤ h then 3 else if nr < d then 1 else if st = 3 ∧ d ≤ wn then 3 else if st = 3 ∨ st = 4 then 4 else 2
def chm (st n : Int) : Bool := (n == 2 && st != 2) || (n == 4 && st == 3)
def cl8 (x : Int) : Int := if x < -100000000 then -100000000 else if 100000000 < x then 100000000 else x
theorem cl8_bd (x : Int) : -100000000 ≤ cl8 x ∧ cl8 x ≤ 100000000 := by unfold cl8; omega
theorem nxt_bd (st d h wn nr : Int) : 1 ≤ nxt st d h wn nr ∧ nxt st d h wn nr ≤ 4 := by
  unfold nxt
  split
  · omega
  · split
    · omega
    · split
      · omega
      · split <;> omega

set_option maxHeartbeats 1000000 in
theorem aright_any (h wn nr : Int) (w : World) :
    Calls Try.prog 36 #[.agg #[.int .i64 h, .int .i64 wn, .int .i64 nr]] w fun e w' => e = .returned (.bool (alR h wn nr)) ∧ Below w.heap.size w w' := by
  unfold alR
  go_enter Try.func36, Try.ntmps36
  go_wp2
  all_goals
    go_ret
    refine ⟨ret_bool ?_, (by repeat (first | exact Below.refl _ _ | assumption | apply Below.drew | apply below_drewN | (refine Below.alloc ?_ (by first | exact Nat.le_refl _ | omega | (simp <;> omega)) _) | (refine Below.setCell ?_ (by first | exact Nat.le_refl _ | omega | (simp <;> omega)) _)))⟩
    rw [Bool.eq_iff_iff]; simp; omega

set_option maxHeartbeats 1000000 in
theorem raright_any (h wn nr : Int) (w : World) :
    Calls Try.prog 34 #[.agg #[.int .i64 h, .int .i64 wn, .int .i64 nr]] w fun e w' => e = .returned (.bool (alR h wn nr)) ∧ Below w.heap.size w w' := by
  unfold alR
  go_enter Try.func34, Try.ntmps34
  go_wp2
  all_goals
    go_ret
    refine ⟨ret_bool ?_, (by repeat (first | exact Below.refl _ _ | assumption | apply Below.drew | apply below_drewN | (refine Below.alloc ?_ (by first | exact Nat.le_refl _ | omega | (simp <;> omega)) _) | (refine Below.setCell ?_ (by first | exact Nat.le_refl _ | omega | (simp <;> omega)) _)))⟩
    rw [Bool.eq_iff_iff]; simp; omega

set_option maxHeartbeats 1000000 in
theorem after_any (st d h wn nr : Int) (w : World) :
    Calls Try.prog 53 #[.int .i64 st, .int .i64 d, .agg #[.int .i64 h, .int .i64 wn, .int .i64 nr]] w fun e w' => e = .returned (.int .i64 (nxt st d h wn nr)) ∧ Below w.heap.size w w' := by
  by_cases h3 : st = 3
  · subst h3
    unfold nxt
    go_enter Try.func53, Try.ntmps53
    go_wp2
    all_goals
      go_ret
      exact ⟨ret_int (by omega), (by repeat (first | exact Below.refl _ _ | assumption | apply Below.drew | apply below_drewN | (refine Below.alloc ?_ (by first | exact Nat.le_refl _ | omega | (simp <;> omega)) _) | (refine Below.setCell ?_ (by first | exact Nat.le_refl _ | omega | (simp <;> omega)) _)))⟩
  · have b3 : (st == 3) = false := beq_eq_false_iff_ne.2 h3
    by_cases h4 : st = 4
    · subst h4
      unfold nxt
      go_enter Try.func53, Try.ntmps53
      go_wp2
      all_goals
        go_ret
        exact ⟨ret_int (by omega), (by repeat (first | exact Below.refl _ _ | assumption | apply Below.drew | apply below_drewN | (refine Below.alloc ?_ (by first | exact Nat.le_refl _ | omega | (simp <;> omega)) _) | (refine Below.setCell ?_ (by first | exact Nat.le_refl _ | omega | (simp <;> omega)) _)))⟩
    · have b4 : (st == 4) = false := beq_eq_false_iff_ne.2 h4
      unfold nxt
      go_enter Try.func53, Try.ntmps53
      go_wp2
      all_goals
        go_ret
        exact ⟨ret_int (by omega), (by repeat (first | exact Below.refl _ _ | assumption | apply Below.drew | apply below_drewN | (refine Below.alloc ?_ (by first | exact Nat.le_refl _ | omega | (simp <;> omega)) _) | (refine Below.setCell ?_ (by first | exact Nat.le_refl _ | omega | (simp <;> omega)) _)))⟩

theorem nxt_cases (st d h wn nr : Int) : nxt st d h wn nr = 1 ∨ nxt st d h wn nr = 2 ∨ nxt st d h wn nr = 3 ∨ nxt st d h wn nr = 4 := by
  have := nxt_bd st d h wn nr
  omega

set_option maxHeartbeats 1000000 in
theorem next_ok (st d h wn nr : Int) (w : World) (hr : alR h wn nr = true) :
    Calls Try.prog 35 #[.int .i64 st, .int .i64 d, .agg #[.int .i64 h, .int .i64 wn, .int .i64 nr]] w fun e w' => e = .returned (.tuple #[.int .i64 (nxt st d h wn nr), .bool (chm st (nxt st d h wn nr))]) ∧ Below w.heap.size w w' := by
  have AF := Lib.hid (fun v => after_any st d h wn nr v)
  have NC := nxt_cases st d h wn nr
  generalize nxt st d h wn nr = n at *
  have bne2 : (st != 2) = !(st == 2) := rfl
  go_enter Try.func35, Try.ntmps35
  go_wp2_with fail
  refine (aright_any h wn nr _).mono ?_
  rintro e w1 ⟨rfl, hb1⟩
  rw [hr]
  obtain ⟨hc1, hf1⟩ := bcell hb1
  have hz1 : w.heap.size < w1.heap.size := by have := hb1.size; simp at this; omega
  go_wp2_with fail
  refine (AF.out _).mono ?_
  rintro e w2 ⟨rfl, hb2⟩
  have hbel : Below w.heap.size w w2 := (Below.trans (by repeat (first | exact Below.refl _ _ | assumption | apply Below.drew | apply below_drewN | (refine Below.alloc ?_ (by first | exact Nat.le_refl _ | omega | (simp <;> omega)) _) | (refine Below.setCell ?_ (by first | exact Nat.le_refl _ | omega | (simp <;> omega)) _))) (hb1.mono (by simp))).trans (hb2.mono (by omega))
  clear hc1 hf1
  rcases NC with rfl | rfl | rfl | rfl
  all_goals
    cases c2 : (st == 2)
    all_goals
      rw [c2] at bne2
      cases c3 : (st == 3)
      all_goals
        go_wp2
        go_ret2
        refine ⟨?_, hbel⟩
        unfold chm
        rw [bne2, c3]
        rfl

set_option maxHeartbeats 1000000 in
theorem next_no (st d h wn nr : Int) (w : World) (hr : alR h wn nr = false) :
    Calls Try.prog 35 #[.int .i64 st, .int .i64 d, .agg #[.int .i64 h, .int .i64 wn, .int .i64 nr]] w fun e w' => e = .returned (.tuple #[.int .i64 0, .bool false]) ∧ Below w.heap.size w w' := by
  go_enter Try.func35, Try.ntmps35
  go_wp2_with fail
  refine (aright_any h wn nr _).mono ?_
  rintro e w1 ⟨rfl, hb1⟩
  rw [hr]
  go_wp2
  go_ret2
  exact ⟨rfl, Below.trans (by repeat (first | exact Below.refl _ _ | assumption | apply Below.drew | apply below_drewN | (refine Below.alloc ?_ (by first | exact Nat.le_refl _ | omega | (simp <;> omega)) _) | (refine Below.setCell ?_ (by first | exact Nat.le_refl _ | omega | (simp <;> omega)) _))) (hb1.mono (by simp))⟩

set_option maxHeartbeats 4000000 in
theorem rnext_ok (st d h wn nr : Int) (w : World) (hr : alR h wn nr = true) :
    Calls Try.prog 38 #[.int .i64 st, .int .i64 d, .agg #[.int .i64 h, .int .i64 wn, .int .i64 nr]] w fun e w' => e = .returned (.tuple #[.int .i64 (nxt st d h wn nr), .bool (chm st (nxt st d h wn nr))]) ∧ Below w.heap.size w w' := by
  obtain ⟨_, k2, k3, _⟩ := alR_ok hr
  clear hr
  have bne2 : (st != 2) = !(st == 2) := rfl
  have c2 : st = 2 ∧ (st == 2) = true ∨ st ≠ 2 ∧ (st == 2) = false := by by_cases h : st = 2 <;> simp [h]
  have c3 : st = 3 ∧ (st == 3) = true ∨ st ≠ 3 ∧ (st == 3) = false := by by_cases h : st = 3 <;> simp [h]
  have c4 : st = 4 ∧ (st == 4) = true ∨ st ≠ 4 ∧ (st == 4) = false := by by_cases h : st = 4 <;> simp [h]
  rcases c2 with ⟨g2, c2⟩ | ⟨g2, c2⟩
  all_goals
    rw [c2] at bne2
    rcases c3 with ⟨g3, c3⟩ | ⟨g3, c3⟩
    all_goals
      rcases c4 with ⟨g4, c4⟩ | ⟨g4, c4⟩
      all_goals
        first
        | (exfalso; omega)
        | (replace g2 := Lib.hid g2
           replace g3 := Lib.hid g3
           replace g4 := Lib.hid g4
           go_enter Try.func38, Try.ntmps38
           go_wp2
           all_goals
             go_ret2
             refine ⟨?_, (by repeat (first | exact Below.refl _ _ | assumption | apply Below.drew | apply below_drewN | (refine Below.alloc ?_ (by first | exact Nat.le_refl _ | omega | (simp <;> omega)) _) | (refine Below.setCell ?_ (by first | exact Nat.le_refl _ | omega | (simp <;> omega)) _)))⟩
             have g2 := g2.out
             have g3 := g3.out
             have g4 := g4.out
             first | (rw [show nxt st d h wn nr = 1 by unfold nxt; omega]; unfold chm; rw [bne2, c3]; rfl) | (rw [show nxt st d h wn nr = 2 by unfold nxt; omega]; unfold chm; rw [bne2, c3]; rfl) | (rw [show nxt st d h wn nr = 3 by unfold nxt; omega]; unfold chm; rw [bne2, c3]; rfl) | (rw [show nxt st d h wn nr = 4 by unfold nxt; omega]; unfold chm; rw [bne2, c3]; rfl))
end Go.Proofs.Ytmoamadpaepcfaa
