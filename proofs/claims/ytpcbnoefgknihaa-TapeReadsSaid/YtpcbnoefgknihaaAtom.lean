/- An atomic number at a place of an object: read, written, added to. -/
import Derived.Test.YtpcbnoefgknihaaObj
namespace Go.Proofs.Ytpcbnoefgknihaa
open Go.ChangeShapes Go.WideShapes Go.ChangeAt Go.RowKit
set_option linter.unusedVariables false

set_option maxHeartbeats 400000 in
theorem aload64 (blk o : Nat) (x : Int) (w : World) (hc : w.cell? ⟨blk, o, none⟩ = some (.int .i64 x)) :
    Calls Try.prog 56 #[.pointer (some ⟨blk, o, none⟩)] w fun e w' => e = .returned (.int .i64 x) ∧ w = w' := by
  have hl := run_call_load (P := Try.prog) Try.func63 (by kernel_rfl) (by kernel_rfl) (by kernel_rfl) .i64 (by kernel_rfl) hc
  go_enter Try.func56, Try.ntmps56
  go_wp2
  go_ret
  exact ⟨rfl, rfl⟩
set_option maxHeartbeats 400000 in
theorem aadd64 (blk o : Nat) (x : Int) (w : World) (hc : w.cell? ⟨blk, o, none⟩ = some (.int .i64 x)) (hf : w.frozen? ⟨blk, o, none⟩ = false) (h0 : 0 ≤ x) (h1 : x < 9223372036854775807) :
    Calls Try.prog 62 #[.pointer (some ⟨blk, o, none⟩), .int .i64 1] w fun e w' => e = .returned (.int .i64 (x + 1)) ∧ w' = w.setCell ⟨blk, o, none⟩ (.int .i64 (x + 1)) := by
  have hs : (Op.intArith .add .i64 x 1).run Try.prog w = .ok (.int .i64 (x + 1)) w := by
    have := IntWalk.i64_in (x + 1) ⟨by omega, by omega⟩
    simp [Op.intArith, this]
  have hst := run_call_add (P := Try.prog) Try.func66 (by kernel_rfl) (by kernel_rfl) (by kernel_rfl) .i64 (by kernel_rfl) (y := 1) (w := w) (a := ⟨blk, o, none⟩) hc hf hs
  go_enter Try.func62, Try.ntmps62
  go_wp2
  go_ret
  exact ⟨rfl, rfl⟩
end Go.Proofs.Ytpcbnoefgknihaa
