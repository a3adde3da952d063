/- The document's signs; the chapter's example. -/
import Derived.Test.YtffhhdjcodapjaaSigns2
namespace Go.Proofs.Ytffhhdjcodapjaa
open Go.ChangeShapes Go.WideShapes Go.ChangeAt Go.RowKit
set_option linter.unusedVariables false
set_option linter.unusedSimpArgs false

theorem sgC_eq {b : Nat} {ep mv tk fl hi : Int} {an an' : Bool} {v r st lo v' r' st' lo' : Int} {w : World} (h : Held b (sgC ep mv tk fl hi an v r st lo) w) (e1 : an = an') (e2 : v = v') (e3 : r = r') (e4 : st = st') (e5 : lo = lo') : Held b (sgC ep mv tk fl hi an' v' r' st' lo') w := by
  subst e1 e2 e3 e4 e5; exact h

set_option maxHeartbeats 1000000 in
theorem lives23 (w : World) : Calls Try.prog 13 #[] w fun e w' => e = .returned (.bool true) ∧ Below w.heap.size w w' := by
  go_enter Try.func13, Try.ntmps13
  go_wp2_with fail
  refine (sgnew_ok 0 5 2 0 0 _ (by decide)).mono ?_
  rintro e w1 ⟨b, hb, rfl, h1, hb1⟩
  go_wp2_with fail
  refine (sstep_any b 7 0 _ h1 (by omega) (by omega) (by omega) (by omega) (by omega) (by omega) (by omega) (by omega)).mono ?_
  rintro e w2 ⟨rfl, h2, o2⟩
  have h2 := sgC_eq h2 rfl (show _ = 7 by decide) (show _ = 0 by decide) (show _ = 0 by decide) (show _ = 0 by decide)
  rw [show sgOut 5 2 (sgS 0 false 0 (clq 7) 0) (clq 0) (sgA 0 false 0 (clq 7) 0 (clq 0)) (sgL 0 0 (clq 7) (clq 0) 0) = 0 by decide]
  go_wp2_with fail
  refine (sstep_any b 7 9 _ h2 (by omega) (by omega) (by omega) (by omega) (by omega) (by omega) (by omega) (by omega)).mono ?_
  rintro e w3 ⟨rfl, h3, o3⟩
  have h3 := sgC_eq h3 rfl (show _ = 7 by decide) (show _ = 0 by decide) (show _ = 1 by decide) (show _ = 0 by decide)
  rw [show sgOut 5 2 (sgS 0 true 7 (clq 7) 0) (clq 9) (sgA 0 true 7 (clq 7) 0 (clq 9)) (sgL 0 0 (clq 7) (clq 9) 0) = 0 by decide]
  go_wp2_with fail
  refine (sstep_any b 7 9 _ h3 (by omega) (by omega) (by omega) (by omega) (by omega) (by omega) (by omega) (by omega)).mono ?_
  rintro e w4 ⟨rfl, h4, o4⟩
  rw [show sgOut 5 2 (sgS 0 true 7 (clq 7) 1) (clq 9) (sgA 0 true 7 (clq 7) 0 (clq 9)) (sgL 0 0 (clq 7) (clq 9) 0) = 1 by decide]
  go_wp2_with fail
  go_ret
  exact ⟨rfl, ((hb1.trans (o2.below hb)).trans (o3.below hb)).trans (o4.below hb)⟩
end Go.Proofs.Ytffhhdjcodapjaa
