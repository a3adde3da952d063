/- tally.New, Ticks, the nil tally, the chapter's example. -/
import Derived.Test.YtifbedliibhmoaaTally2
import Derived.Test.YtifbedliibhmoaaNew
namespace Go.Proofs.Ytifbedliibhmoaa
open Go.ChangeShapes Go.WideShapes Go.ChangeAt Go.RowKit
set_option linter.unusedVariables false

set_option maxHeartbeats 1000000 in
theorem tnew_ok (u d s m : Int) (w : World) (h : tlR u d s m = true) :
    Calls Try.prog 28 #[.agg #[.int .i64 u, .int .i64 d, .int .i64 s, .int .i64 m]] w (NewObj (tlC u d s m 0 false) w) := by
  go_enter Try.func28, Try.ntmps28
  go_wp2_with fail
  refine (tright_any u d s m _).mono ?_
  rintro e w1 ⟨rfl, hb1⟩
  rw [h]
  obtain ⟨hc1, hf1⟩ := bcell hb1
  have hz1 : w.heap.size < w1.heap.size := by have := hb1.size; simp at this; omega
  go_wp2
  go_ret2
  refine ⟨w1.heap.size, by omega, rfl, Held.new w1 (tlC u d s m 0 false) _, ?_⟩
  exact (Below.trans ((Below.refl _ _).alloc (Nat.le_refl _) _) (hb1.mono (by simp))).alloc (by omega) _

set_option maxHeartbeats 1000000 in
theorem tnew_no (u d s m : Int) (w : World) (h : tlR u d s m = false) :
    Calls Try.prog 28 #[.agg #[.int .i64 u, .int .i64 d, .int .i64 s, .int .i64 m]] w fun e w' => e = .returned (.tuple #[.pointer none, .int .i64 2]) ∧ Below w.heap.size w w' := by
  go_enter Try.func28, Try.ntmps28
  go_wp2_with fail
  refine (tright_any u d s m _).mono ?_
  rintro e w1 ⟨rfl, hb1⟩
  rw [h]
  go_wp2
  go_ret2
  exact ⟨rfl, Below.trans ((Below.refl _ _).alloc (Nat.le_refl _) _) (hb1.mono (by simp))⟩

def tks (u s : Int) : Int := (s + u - 1) / u
theorem tlC_n {b : Nat} {u d s m n n' : Int} {l l' : Bool} {w : World} (h : Held b (tlC u d s m n l) w) (e1 : n = n') (e2 : l = l') : Held b (tlC u d s m n' l') w := by subst e1; subst e2; exact h

set_option maxHeartbeats 1000000 in
theorem lives22 (w : World) : Calls Try.prog 29 #[] w fun e w' => e = .returned (.bool true) ∧ Below w.heap.size w w' := by
  have ok := tlR_ok (show tlR 2 1 4 9 = true by decide)
  go_enter Try.func29, Try.ntmps29
  go_wp2_with fail
  refine (tnew_ok 2 1 4 9 _ (by decide)).mono ?_
  rintro e w1 ⟨b, hb, rfl, h1, hb1⟩
  go_wp2_with fail
  refine (tstep_any b true _ h1 ok (by omega) (by omega)).mono ?_
  rintro e w2 ⟨rfl, h2, o2⟩
  rw [show (false || decide (4 ≤ tnx 2 1 9 0 true)) = false by decide] at h2 ⊢
  have h2 := tlC_n h2 (show tnx 2 1 9 0 true = 2 by decide) rfl
  go_wp2_with fail
  refine (tstep_any b true _ h2 ok (by omega) (by omega)).mono ?_
  rintro e w3 ⟨rfl, h3, o3⟩
  rw [show (false || decide (4 ≤ tnx 2 1 9 2 true)) = true by decide] at h3 ⊢
  have h3 := tlC_n h3 (show tnx 2 1 9 2 true = 4 by decide) rfl
  go_wp2_with (first | (go_at_call 33; refine (tnum_any b _ h3).mono ?_; rintro e w1 ⟨rfl, rfl⟩) | (go_at_call 34; refine (tlat_any b _ h3).mono ?_; rintro e w1 ⟨rfl, rfl⟩))
  go_ret
  exact ⟨rfl, (hb1.trans (o2.below hb)).trans (o3.below hb)⟩
end Go.Proofs.Ytifbedliibhmoaa
