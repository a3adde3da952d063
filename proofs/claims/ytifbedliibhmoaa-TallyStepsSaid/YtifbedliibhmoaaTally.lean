/- Contracts of package tally and of the document's tally. -/
import Derived.Test.YtifbedliibhmoaaAtom
import Derived.BigRegion
namespace Go.Proofs.Ytifbedliibhmoaa
open Go.ChangeShapes Go.WideShapes Go.ChangeAt Go.RowKit
set_option linter.unusedVariables false

def tlC (u d s m n : Int) (l : Bool) : List Value := [.int .i64 u, .int .i64 d, .int .i64 s, .int .i64 m, .int .i64 n, .bool l]
/-- A count that may be. -/
def tlR (u d s m : Int) : Bool := decide (1 ≤ u) && decide (u ≤ 1000) && decide (0 ≤ d) && decide (d ≤ 1000) && decide (1 ≤ s) && decide (s ≤ 100000) && decide (s ≤ m) && decide (m ≤ 100000)
structure TlOk (u d s m : Int) : Prop where
  u1 : 1 ≤ u
  u2 : u ≤ 1000
  d1 : 0 ≤ d
  d2 : d ≤ 1000
  s1 : 1 ≤ s
  s2 : s ≤ 100000
  m1 : s ≤ m
  m2 : m ≤ 100000
theorem tlR_ok {u d s m : Int} (h : tlR u d s m = true) : TlOk u d s m := by
  unfold tlR at h
  simp at h
  obtain ⟨⟨⟨⟨⟨⟨⟨a, b⟩, c⟩, d⟩, e⟩, f⟩, g⟩, i⟩ := h
  exact ⟨a, b, c, d, e, f, g, i⟩
def tnx (u d m n : Int) (bad : Bool) : Int := if bad then (if n + u ≤ m then n + u else m) else (if 0 ≤ n - d then n - d else 0)
theorem tnx_bd {u d s m : Int} (h : TlOk u d s m) {n : Int} (h0 : 0 ≤ n) (hm : n ≤ m) (bad : Bool) : 0 ≤ tnx u d m n bad ∧ tnx u d m n bad ≤ m := by
  obtain ⟨_, _, _, _, _, _, _, _⟩ := h
  unfold tnx
  cases bad <;> simp <;> split <;> omega

set_option maxHeartbeats 1000000 in
theorem tright_any (u d s m : Int) (w : World) :
    Calls Try.prog 65 #[.agg #[.int .i64 u, .int .i64 d, .int .i64 s, .int .i64 m]] w fun e w' => e = .returned (.bool (tlR u d s m)) ∧ Below w.heap.size w w' := by
  unfold tlR
  go_enter Try.func65, Try.ntmps65
  go_wp2
  all_goals
    go_ret
    refine ⟨ret_bool ?_, (by repeat (first | exact Below.refl _ _ | assumption | apply Below.drew | apply below_drewN | (refine Below.alloc ?_ (by first | exact Nat.le_refl _ | omega | (simp <;> omega)) _) | (refine Below.setCell ?_ (by first | exact Nat.le_refl _ | omega | (simp <;> omega)) _)))⟩
    rw [Bool.eq_iff_iff]; simp; omega

set_option maxHeartbeats 400000 in
theorem tnum_any (b : Nat) {u d s m n : Int} {l : Bool} (w : World) (h : Held b (tlC u d s m n l) w) :
    Calls Try.prog 33 #[.pointer (some ⟨b, 0, none⟩)] w fun e w' => e = .returned (.int .i64 n) ∧ w = w' := by
  obtain ⟨c0, f0⟩ := h.one 0 rfl
  obtain ⟨c1, f1⟩ := h.one 1 rfl
  obtain ⟨c2, f2⟩ := h.one 2 rfl
  obtain ⟨c3, f3⟩ := h.one 3 rfl
  obtain ⟨c4, f4⟩ := h.one 4 rfl
  obtain ⟨c5, f5⟩ := h.one 5 rfl
  go_enter Try.func33, Try.ntmps33
  go_wp2_with (go_at_call 68; refine (aload64 _ _ _ _ c4).mono ?_; rintro e w1 ⟨rfl, rfl⟩)
  go_ret
  exact ⟨rfl, rfl⟩

set_option maxHeartbeats 400000 in
theorem tlat_any (b : Nat) {u d s m n : Int} {l : Bool} (w : World) (h : Held b (tlC u d s m n l) w) :
    Calls Try.prog 34 #[.pointer (some ⟨b, 0, none⟩)] w fun e w' => e = .returned (.bool l) ∧ w = w' := by
  obtain ⟨c0, f0⟩ := h.one 0 rfl
  obtain ⟨c1, f1⟩ := h.one 1 rfl
  obtain ⟨c2, f2⟩ := h.one 2 rfl
  obtain ⟨c3, f3⟩ := h.one 3 rfl
  obtain ⟨c4, f4⟩ := h.one 4 rfl
  obtain ⟨c5, f5⟩ := h.one 5 rfl
  go_enter Try.func34, Try.ntmps34
  go_wp2
  go_ret
  exact ⟨rfl, rfl⟩

set_option maxHeartbeats 400000 in
theorem tclear_any (b : Nat) {u d s m n : Int} {l : Bool} (w : World) (h : Held b (tlC u d s m n l) w) :
    Calls Try.prog 30 #[.pointer (some ⟨b, 0, none⟩)] w fun e w' => e = .returned (.tuple #[]) ∧ Held b (tlC u d s m 0 false) w' ∧ Only b w w' := by
  obtain ⟨c0, f0⟩ := h.one 0 rfl
  obtain ⟨c1, f1⟩ := h.one 1 rfl
  obtain ⟨c2, f2⟩ := h.one 2 rfl
  obtain ⟨c3, f3⟩ := h.one 3 rfl
  obtain ⟨c4, f4⟩ := h.one 4 rfl
  obtain ⟨c5, f5⟩ := h.one 5 rfl
  go_enter Try.func30, Try.ntmps30
  go_wp2_with (go_at_call 66; refine (astore64 _ _ _ _ _ c4 f4).mono ?_; rintro e w1 ⟨rfl, rfl⟩)
  go_end0
  exact ⟨rfl, (h.set 4 _ (by simp [tlC])).set 5 _ (by simp [tlC]), ((Only.refl b w).setCell (p := ⟨b, 4, none⟩) _).setCell (p := ⟨b, 5, none⟩) _⟩

set_option maxHeartbeats 400000 in
theorem tnext_any (b : Nat) {u d s m n : Int} {l : Bool} (bad : Bool) (w : World) (h : Held b (tlC u d s m n l) w) (ok : TlOk u d s m) (h0 : 0 ≤ n) (hm : n ≤ m) :
    Calls Try.prog 67 #[.pointer (some ⟨b, 0, none⟩), .bool bad] w fun e w' => e = .returned (.int .i64 (tnx u d m n bad)) ∧ ∃ k, w' = w.drewN k := by
  obtain ⟨c0, f0⟩ := h.one 0 rfl
  obtain ⟨c1, f1⟩ := h.one 1 rfl
  obtain ⟨c2, f2⟩ := h.one 2 rfl
  obtain ⟨c3, f3⟩ := h.one 3 rfl
  obtain ⟨c4, f4⟩ := h.one 4 rfl
  obtain ⟨c5, f5⟩ := h.one 5 rfl
  obtain ⟨u1, u2, d1, d2, s1, s2, m1, m2⟩ := ok
  have e1 : IntKind.i64.wrap (n + u) = n + u := IntWalk.i64_in _ ⟨by omega, by omega⟩
  have e2 : IntKind.i64.wrap (n - d) = n - d := IntWalk.i64_in _ ⟨by omega, by omega⟩
  cases bad
  · by_cases hc : 0 ≤ n - d
    all_goals
      go_enter Try.func67, Try.ntmps67
      go_wp2_with fail
      go_quiet ((first | (go_at_call 33; (exact quiet_as _ rfl (tnum_any b _ (h.drewN _))))))
      go_wp2
      go_ret
      refine ⟨ret_int (by unfold tnx; simp; omega), ⟨_, rfl⟩⟩
  · by_cases hc : n + u ≤ m
    all_goals
      go_enter Try.func67, Try.ntmps67
      go_wp2_with fail
      go_quiet ((first | (go_at_call 33; (exact quiet_as _ rfl (tnum_any b _ (h.drewN _))))))
      go_wp2
      go_ret
      refine ⟨ret_int (by unfold tnx; simp; omega), ⟨_, rfl⟩⟩

set_option maxHeartbeats 400000 in
theorem tstep_any (b : Nat) {u d s m n : Int} {l : Bool} (bad : Bool) (w : World) (h : Held b (tlC u d s m n l) w) (ok : TlOk u d s m) (h0 : 0 ≤ n) (hm : n ≤ m) :
    Calls Try.prog 31 #[.pointer (some ⟨b, 0, none⟩), .bool bad] w fun e w' => e = .returned (.bool (l || decide (s ≤ tnx u d m n bad))) ∧ Held b (tlC u d s m (tnx u d m n bad) (l || decide (s ≤ tnx u d m n bad))) w' ∧ Only b w w' := by
  have N := Lib.hid (tnext_any b bad w h ok h0 hm)
  generalize tnx u d m n bad = n' at *
  go_enter Try.func31, Try.ntmps31
  go_wp2_with fail
  refine N.out.mono ?_
  rintro e w1 ⟨rfl, k, rfl⟩
  have h1 := h.drewN k
  have o1 : Only b w (w.drewN k) := ⟨rfl, rfl, rfl, rfl, fun _ _ => rfl⟩
  generalize w.drewN k = v at *
  obtain ⟨c0, f0⟩ := h1.one 0 rfl
  obtain ⟨c1, f1⟩ := h1.one 1 rfl
  obtain ⟨c2, f2⟩ := h1.one 2 rfl
  obtain ⟨c3, f3⟩ := h1.one 3 rfl
  obtain ⟨c4, f4⟩ := h1.one 4 rfl
  obtain ⟨c5, f5⟩ := h1.one 5 rfl
  cases l
  all_goals
    by_cases hs : s ≤ n'
    all_goals
      go_wp2_with (go_at_call 66; refine (astore64 _ _ _ _ _ c4 f4).mono ?_; rintro e w1 ⟨rfl, rfl⟩)
      go_ret
      simp only [hs, decide_true, Bool.false_or, Bool.true_or]
      exact ⟨rfl, (h1.set 4 _ (by simp [tlC])).set 5 _ (by simp [tlC]), (o1.setCell (p := ⟨b, 4, none⟩) _).setCell (p := ⟨b, 5, none⟩) _⟩
end Go.Proofs.Ytifbedliibhmoaa
