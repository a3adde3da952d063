/- The alerter's step, walked. -/
import Derived.Test.YtmoamadpaepcfaaAlert2
namespace Go.Proofs.Ytmoamadpaepcfaa
open Go.ChangeShapes Go.WideShapes Go.ChangeAt Go.RowKit
set_option linter.unusedVariables false

set_option maxHeartbeats 1000000 in
theorem astep_none (b : Nat) {h wn nr sv : Int} {st ch : Int} (x : Int) (w : World) (k : Held b (alC h wn nr sv false st ch) w) :
    Calls Try.prog 42 #[.pointer (some ⟨b, 0, none⟩), .int .i64 x] w fun e w' => e = .returned (.tuple #[.int .i64 0, .bool false]) ∧ Below w.heap.size w w' := by
  obtain ⟨c0, f0⟩ := k.one 0 rfl
  obtain ⟨c1, f1⟩ := k.one 1 rfl
  obtain ⟨c2, f2⟩ := k.one 2 rfl
  obtain ⟨c3, f3⟩ := k.one 3 rfl
  obtain ⟨c4, f4⟩ := k.one 4 rfl
  obtain ⟨c5, f5⟩ := k.one 5 rfl
  obtain ⟨c6, f6⟩ := k.one 6 rfl
  go_enter Try.func42, Try.ntmps42
  go_wp2_with fail
  refine (oget_any _ _ _).mono ?_
  rintro e w1 ⟨rfl, hb1⟩
  go_wp2
  go_ret2
  exact ⟨rfl, hb1⟩

def bump (c : Bool) (ch : Int) : Int := if c then ch + 1 else ch
theorem dst_bd (x y : Int) (hx : -100000000 ≤ x ∧ x ≤ 100000000) (hy : -100000000 ≤ y ∧ y ≤ 100000000) : 0 ≤ dst x y ∧ dst x y ≤ 200000000 := by unfold dst; omega

end Go.Proofs.Ytmoamadpaepcfaa
