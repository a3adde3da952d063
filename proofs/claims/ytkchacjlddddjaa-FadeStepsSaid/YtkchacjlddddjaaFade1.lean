/- Contracts of package fade. -/
import Derived.Test.YtkchacjlddddjaaClip
import Derived.Test.YtkchacjlddddjaaBeside
namespace Go.Proofs.Ytkchacjlddddjaa
open Go.ChangeShapes Go.WideShapes Go.ChangeAt Go.RowKit
set_option linter.unusedVariables false

theorem clq_cases (v : Int) : (v < -549755813887 ∧ clq v = -549755813887) ∨ (549755813887 < v ∧ clq v = 549755813887) ∨ (-549755813887 ≤ v ∧ v ≤ 549755813887 ∧ clq v = v) := by
  unfold clq; omega

/-- The cells of a fader. -/
def fdC (len out : Int) (kn : Bool) (lf : Int) : List Value := [.int .i64 len, .int .i64 out, .bool kn, .int .i64 lf]
def fdL (len : Int) (kn ch : Bool) (lf : Int) : Int := if ch && kn then len else lf
def fdV (L last x : Int) : Int := if 0 < L then last + (x - last).tdiv L else x
def fdN (L : Int) : Int := if 0 < L then L - 1 else 0

theorem part_bd (d L : Int) (h : 0 < L) : (0 ≤ d → 0 ≤ d.tdiv L ∧ d.tdiv L ≤ d) ∧ (d ≤ 0 → d ≤ d.tdiv L ∧ d.tdiv L ≤ 0) := by
  have pos : ∀ e : Int, 0 ≤ e → 0 ≤ e.tdiv L ∧ e.tdiv L ≤ e := fun e he => by
    rw [Int.tdiv_eq_ediv_of_nonneg he]
    exact ⟨Int.ediv_nonneg he (by omega), Int.ediv_le_self _ he⟩
  refine ⟨pos d, fun hd => ?_⟩
  have := pos (-d) (by omega)
  rw [Int.neg_tdiv] at this
  omega
/-- The output lies between the last one and the value. -/
theorem fdV_between (L last x : Int) : (last ≤ x → last ≤ fdV L last x ∧ fdV L last x ≤ x) ∧ (x ≤ last → x ≤ fdV L last x ∧ fdV L last x ≤ last) := by
  unfold fdV
  split
  · have := part_bd (x - last) L (by assumption)
    omega
  · omega
theorem fdL_bd {len lf : Int} (kn ch : Bool) (h0 : 0 ≤ lf) (h1 : lf ≤ len) : 0 ≤ fdL len kn ch lf ∧ fdL len kn ch lf ≤ len := by
  unfold fdL; split <;> omega

set_option maxHeartbeats 400000 in
theorem oget_any (v : Int) (k : Bool) (w : World) :
    Calls Try.prog 65 #[.agg #[.int .i64 v, .bool k]] w fun e w' => e = .returned (.tuple #[.int .i64 v, .bool k]) ∧ Below w.heap.size w w' := by
  go_enter Try.func65, Try.ntmps65
  go_wp2_with fail
  go_quiet (fail)
  go_wp2
  go_ret2
  exact ⟨rfl, (by repeat (first | exact Below.refl _ _ | assumption | apply Below.drew | apply below_drewN | (refine Below.alloc ?_ (by first | exact Nat.le_refl _ | omega | (simp <;> omega)) _) | (refine Below.setCell ?_ (by first | exact Nat.le_refl _ | omega | (simp <;> omega)) _)))⟩
set_option maxHeartbeats 400000 in
theorem oof_any (v : Int) (w : World) :
    Calls Try.prog 66 #[.int .i64 v] w fun e w' => e = .returned (.agg #[.int .i64 v, .bool true]) ∧ Below w.heap.size w w' := by
  go_enter Try.func66, Try.ntmps66
  go_wp2
  exact bodyPost_ret (v := .agg #[.int .i64 v, .bool true]) (by simp [results, Try.results66, go_sem]) rfl ⟨rfl, (by repeat (first | exact Below.refl _ _ | assumption | apply Below.drew | apply below_drewN | (refine Below.alloc ?_ (by first | exact Nat.le_refl _ | omega | (simp <;> omega)) _) | (refine Below.setCell ?_ (by first | exact Nat.le_refl _ | omega | (simp <;> omega)) _)))⟩

set_option maxHeartbeats 400000 in
theorem fleft_any (b : Nat) {len out : Int} {kn : Bool} {lf : Int} (w : World) (h : Held b (fdC len out kn lf) w) :
    Calls Try.prog 48 #[.pointer (some ⟨b, 0, none⟩)] w fun e w' => e = .returned (.int .i64 lf) ∧ w = w' := by
  obtain ⟨c0, f0⟩ := h.one 0 rfl
  obtain ⟨c1, f1⟩ := h.one 1 rfl
  obtain ⟨c2, f2⟩ := h.one 2 rfl
  obtain ⟨c3, f3⟩ := h.one 3 rfl
  go_enter Try.func48, Try.ntmps48
  go_wp2
  go_ret
  exact ⟨rfl, rfl⟩
set_option maxHeartbeats 400000 in
theorem fleft_nil (w : World) : Calls Try.prog 48 #[.pointer none] w fun e w' => e = .returned (.int .i64 0) ∧ w = w' := by
  go_enter Try.func48, Try.ntmps48
  go_wp2
  go_ret
  exact ⟨rfl, rfl⟩
set_option maxHeartbeats 400000 in
theorem fout_any (b : Nat) {len out : Int} {kn : Bool} {lf : Int} (w : World) (h : Held b (fdC len out kn lf) w) :
    Calls Try.prog 46 #[.pointer (some ⟨b, 0, none⟩)] w fun e w' => e = .returned (.tuple #[.int .i64 out, .bool kn]) ∧ Below w.heap.size w w' := by
  obtain ⟨c0, f0⟩ := h.one 0 rfl
  obtain ⟨c1, f1⟩ := h.one 1 rfl
  obtain ⟨c2, f2⟩ := h.one 2 rfl
  obtain ⟨c3, f3⟩ := h.one 3 rfl
  go_enter Try.func46, Try.ntmps46
  go_wp2_with (go_at_call 65; refine (oget_any _ _ _).mono ?_; rintro e w1 ⟨rfl, hb1⟩)
  go_ret2
  exact ⟨rfl, hb1⟩
set_option maxHeartbeats 400000 in
theorem fout_nil (w : World) : Calls Try.prog 46 #[.pointer none] w fun e w' => e = .returned (.tuple #[.int .i64 0, .bool false]) ∧ w = w' := by
  go_enter Try.func46, Try.ntmps46
  go_wp2
  go_ret2
  exact ⟨rfl, rfl⟩
set_option maxHeartbeats 400000 in
theorem freset_any (b : Nat) {len out : Int} {kn : Bool} {lf : Int} (w : World) (h : Held b (fdC len out kn lf) w) :
    Calls Try.prog 45 #[.pointer (some ⟨b, 0, none⟩)] w fun e w' => e = .returned (.tuple #[]) ∧ Held b (fdC len 0 false 0) w' ∧ Only b w w' := by
  obtain ⟨c0, f0⟩ := h.one 0 rfl
  obtain ⟨c1, f1⟩ := h.one 1 rfl
  obtain ⟨c2, f2⟩ := h.one 2 rfl
  obtain ⟨c3, f3⟩ := h.one 3 rfl
  go_enter Try.func45, Try.ntmps45
  go_wp2
  go_end0
  exact ⟨rfl, ((h.set 1 (.int .i64 0) (by simp [fdC])).set 2 (.bool false) (by simp [fdC])).set 3 (.int .i64 0) (by simp [fdC]), (((Only.refl b w).setCell (p := ⟨b, 1, none⟩) _).setCell (p := ⟨b, 2, none⟩) _).setCell (p := ⟨b, 3, none⟩) _⟩
set_option maxHeartbeats 400000 in
theorem freset_nil (w : World) : Calls Try.prog 45 #[.pointer none] w fun e w' => e = .returned (.tuple #[]) ∧ w = w' := by
  go_enter Try.func45, Try.ntmps45
  go_wp2
  go_end0
  exact ⟨rfl, rfl⟩
set_option maxHeartbeats 400000 in
theorem fstep_nil (v : Int) (ch : Bool) (w : World) : Calls Try.prog 47 #[.pointer none, .int .i64 v, .bool ch] w fun e w' => e = .returned (.int .i64 0) ∧ w = w' := by
  go_enter Try.func47, Try.ntmps47
  go_wp2
  go_ret
  exact ⟨rfl, rfl⟩
set_option maxHeartbeats 400000 in
theorem fnew_ok (len : Int) (w : World) (h0 : 0 ≤ len) (h1 : len ≤ 1000) :
    Calls Try.prog 44 #[.int .i64 len] w (NewObj (fdC len 0 false 0) w) := by
  go_enter Try.func44, Try.ntmps44
  go_wp2
  go_ret2
  exact ⟨w.heap.size, Nat.le_refl _, rfl, Held.new w (fdC len 0 false 0) _, (Below.refl _ _).alloc (Nat.le_refl _) _⟩
set_option maxHeartbeats 400000 in
theorem fnew_no (len : Int) (w : World) (h : ¬ (0 ≤ len ∧ len ≤ 1000)) :
    Calls Try.prog 44 #[.int .i64 len] w fun e w' => e = .returned (.tuple #[.pointer none, .int .i64 2]) ∧ w = w' := by
  go_enter Try.func44, Try.ntmps44
  go_wp2
  all_goals first | (exfalso; omega) | skip
  all_goals
    go_ret2
    exact ⟨rfl, rfl⟩
end Go.Proofs.Ytkchacjlddddjaa
