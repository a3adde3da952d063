/- The document's Ticks, and the law TallyNew, walked. -/
import Derived.Test.YtmoamadpaepcfaaTally3
import Derived.Test.YtmoamadpaepcfaaBeside
namespace Go.Proofs.Ytmoamadpaepcfaa
open Go.ChangeShapes Go.WideShapes Go.ChangeAt Go.RowKit
set_option linter.unusedVariables false

theorem tk_done {u d s m : Int} (ok : TlOk u d s m) {k x : Int} (e : x = (k - 1) * u) (h1 : x < s) (h2 : s ≤ tnx u d m x true) : k = tks u s := by
  obtain ⟨u1, u2, d1, d2, s1, s2, m1, m2⟩ := ok
  have h3 : s ≤ x + u := by unfold tnx at h2; simp at h2; omega
  have h4 : u * k = x + u := by rw [e, Int.sub_mul, Int.one_mul, Int.mul_comm]; omega
  have := ((Int.ediv_emod_unique (a := s + u - 1) (b := u) (q := k) (r := s - 1 - x) (by omega)).2 ⟨by omega, by omega, by omega⟩).1
  unfold tks
  exact this.symm
theorem tk_more {u d s m : Int} (ok : TlOk u d s m) {k x : Int} (e : x = (k - 1) * u) (h0 : k - 1 ≤ x) (h2 : ¬ s ≤ tnx u d m x true) : tnx u d m x true = x + u ∧ tnx u d m x true = (k + 1 - 1) * u ∧ k + 1 - 1 ≤ tnx u d m x true := by
  obtain ⟨u1, u2, d1, d2, s1, s2, m1, m2⟩ := ok
  have h3 : tnx u d m x true = x + u := by unfold tnx at h2 ⊢; simp at h2 ⊢; omega
  rw [h3]
  have h4 : (k + 1 - 1) * u = x + u := by rw [e, show k + 1 - 1 = (k - 1) + 1 by omega, Int.add_mul, Int.one_mul]
  exact ⟨rfl, h4.symm, by omega⟩

set_option maxHeartbeats 1000000 in
theorem rticks_ok (u d s m : Int) (w : World) (h : tlR u d s m = true) :
    Calls Try.prog 24 #[.agg #[.int .i64 u, .int .i64 d, .int .i64 s, .int .i64 m]] w fun e w' => e = .returned (.int .i64 (tks u s)) ∧ Below w.heap.size w w' := by
  have ok := tlR_ok h
  have s1 := ok.s1
  have s2 := ok.s2
  have m1 := ok.m1
  have h0 := Held.new (w.alloc (.cells #[.int .i64 u, .int .i64 d, .int .i64 s, .int .i64 m] 23)) (tlC u d s m 0 false) 36
  rw [show (w.alloc (.cells #[.int .i64 u, .int .i64 d, .int .i64 s, .int .i64 m] 23)).heap.size = w.heap.size + 1 by simp] at h0
  go_enter Try.func24, Try.ntmps24
  go_wp2_with fail
  go_loopw [4] (fun i v => ∃ (k : Nat) (x : Int), 1 ≤ k ∧ i = .int .i64 k ∧ 0 ≤ x ∧ x < s ∧ Hid (x = ((k : Int) - 1) * u) ∧ (k : Int) - 1 ≤ x ∧ Held (w.heap.size + 1) (tlC u d s m x false) v ∧ Below w.heap.size w v) (fun i _ => 100001 - (intOf i).toNat)
  case atStart => exact ⟨1, 0, by omega, rfl, by omega, by omega, Lib.hid (by simp), by omega, h0, (by repeat (first | exact Below.refl _ _ | assumption | apply Below.drew | apply below_drewN | (refine Below.alloc ?_ (by first | exact Nat.le_refl _ | omega | (simp <;> omega)) _) | (refine Below.setCell ?_ (by first | exact Nat.le_refl _ | omega | (simp <;> omega)) _)))⟩
  case round =>
    obtain ⟨k, x, hk, rfl, x0, x1, hx, xk, hh, hbel⟩ := hrel
    clear h0
    have ST := rtstep_any (w.heap.size + 1) true wr hh ok x0 (by omega)
    have nb := tnx_bd ok x0 (show x ≤ m by omega) true
    have TD := Lib.hid (fun h2 => tk_done ok hx.out x1 h2)
    have TM := Lib.hid (fun h2 => tk_more ok hx.out xk h2)
    generalize tnx u d m x true = n' at *
    rw [Bool.false_or] at ST
    cases hs : decide (s ≤ n')
    · rw [hs] at ST
      have ST := Lib.hid ST
      have t := TM.out (of_decide_eq_false hs)
      go_wp2_with fail
      refine ST.out.mono ?_
      rintro e w2 ⟨rfl, h2, o2⟩
      go_wp2
      go_roundw
      case rel => exact ⟨k + 1, n', by omega, by go_num, nb.1, by have := of_decide_eq_false hs; omega, Lib.hid (by have := t.2.1; push_cast; exact this), by have := t.2.2; push_cast; exact this, h2, hbel.trans (o2.below (by omega))⟩
      case measure => simp [intOf]; omega
    · rw [hs] at ST
      have ST := Lib.hid ST
      have t := Lib.hid (TD.out (of_decide_eq_true hs))
      go_wp2_with fail
      refine ST.out.mono ?_
      rintro e w2 ⟨rfl, h2, o2⟩
      go_wp2
      go_ret
      exact ⟨ret_int t.out, hbel.trans (o2.below (by omega))⟩
end Go.Proofs.Ytmoamadpaepcfaa
