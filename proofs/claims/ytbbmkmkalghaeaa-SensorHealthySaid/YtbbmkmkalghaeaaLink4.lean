/- Step of a frame's bytes; the laws LinkNew and LinkOrder; walked. -/
import Derived.Test.YtbbmkmkalghaeaaLink3
import Derived.Deep.Cut
namespace Go.Proofs.Ytbbmkmkalghaeaa
open Go.ChangeShapes Go.WideShapes Go.ChangeAt Go.RowKit
set_option linter.unusedVariables false
set_option linter.unusedSimpArgs false
set_option maxRecDepth 100000 in
set_option maxHeartbeats 8000000 in
theorem lkp_new {i pa i0 s0 v0 t0 ag ta re q v t : Int} (b g c : Nat) (w : World) (h : Held b (lkC i pa i0 s0 v0 t0 false ag ta re) w) (ha : 0 ≤ ag ∧ ag ≤ 1000000) (hr0 : 0 ≤ ta ∧ ta < 9223372036854775807) (hf : frB i q v t = true) (hr : RowIs .u8 w (some ⟨g, 0, none⟩) (puL i q v t)) (hg : g ≠ b) : Calls Try.prog 113 #[.pointer (some ⟨b, 0, none⟩), .slice (some ⟨g, 0, none⟩) 8 c] w fun e w' => e = .returned (.tuple #[.agg #[.int .i64 i, .int .i64 q, .int .i64 v, .int .i64 t], .int .i64 0]) ∧ Held b (lkC i pa i q v t true 0 (ta + 1) re) w' ∧ Beside b w w' := by
  obtain ⟨t1, t2, t3, t4⟩ := puL_back hf
  have hne : ∀ x : Addr, some (⟨g, 0, none⟩ : Addr) = some x → x.block ≠ b := fun x hx => by injection hx with hx; subst hx; exact hg
  have := lkstep_fine b w h ha hr0 (puL i q v t) (some ⟨g, 0, none⟩) c hr hne (by show 0 < 8; omega) (by show 8 ≤ maxLen; decide) (fun u hu hru => lkrcv_new b (puL i q v t) u hu (some ⟨g, 0, none⟩) c hru (by show 8 ≤ maxLen; decide) (puL_byt hf) (puL_ok i q v t) t1 rfl)
  rw [t1, t2, t3, t4] at this
  exact this
set_option maxRecDepth 100000 in
set_option maxHeartbeats 8000000 in
theorem lkp_ok {i pa i0 s0 v0 t0 ag ta re q v t : Int} (b g c : Nat) (w : World) (h : Held b (lkC i pa i0 s0 v0 t0 true ag ta re) w) (ha : 0 ≤ ag ∧ ag ≤ 1000000) (hr0 : 0 ≤ ta ∧ ta < 9223372036854775807) (hf : frB i q v t = true) (hr : RowIs .u8 w (some ⟨g, 0, none⟩) (puL i q v t)) (hg : g ≠ b) (hs : 0 ≤ s0 ∧ s0 ≤ 255) (hq : q = (s0 + 1) % 256) : Calls Try.prog 113 #[.pointer (some ⟨b, 0, none⟩), .slice (some ⟨g, 0, none⟩) 8 c] w fun e w' => e = .returned (.tuple #[.agg #[.int .i64 i, .int .i64 q, .int .i64 v, .int .i64 t], .int .i64 0]) ∧ Held b (lkC i pa i q v t true 0 (ta + 1) re) w' ∧ Beside b w w' := by
  obtain ⟨t1, t2, t3, t4⟩ := puL_back hf
  have hne : ∀ x : Addr, some (⟨g, 0, none⟩ : Addr) = some x → x.block ≠ b := fun x hx => by injection hx with hx; subst hx; exact hg
  have := lkstep_fine b w h ha hr0 (puL i q v t) (some ⟨g, 0, none⟩) c hr hne (by show 0 < 8; omega) (by show 8 ≤ maxLen; decide) (fun u hu hru => lkrcv_ok b (puL i q v t) u hu (some ⟨g, 0, none⟩) c hru (by show 8 ≤ maxLen; decide) (puL_byt hf) (puL_ok i q v t) t1 rfl (by rw [t2]; exact hq) hs)
  rw [t1, t2, t3, t4] at this
  exact this
set_option maxRecDepth 100000 in
set_option maxHeartbeats 8000000 in
theorem lkp_order {i pa i0 s0 v0 t0 ag ta re q v t : Int} (b g c : Nat) (w : World) (h : Held b (lkC i pa i0 s0 v0 t0 true ag ta re) w) (ha : 0 ≤ ag ∧ ag ≤ 1000000) (hr0 : 0 ≤ re ∧ re < 9223372036854775807) (hf : frB i q v t = true) (hr : RowIs .u8 w (some ⟨g, 0, none⟩) (puL i q v t)) (hg : g ≠ b) (hs : 0 ≤ s0 ∧ s0 ≤ 255) (hq : q ≠ (s0 + 1) % 256) : Calls Try.prog 113 #[.pointer (some ⟨b, 0, none⟩), .slice (some ⟨g, 0, none⟩) 8 c] w fun e w' => e = .returned (.tuple #[.agg #[.int .i64 0, .int .i64 0, .int .i64 0, .int .i64 0], .int .i64 5]) ∧ Held b (lkC i pa i q v t true (agN ag) ta (re + 1)) w' ∧ Beside b w w' := by
  obtain ⟨t1, t2, t3, t4⟩ := puL_back hf
  have hne : ∀ x : Addr, some (⟨g, 0, none⟩ : Addr) = some x → x.block ≠ b := fun x hx => by injection hx with hx; subst hx; exact hg
  have := lkstep_err b w h ha hr0 (by omega) (puL i q v t) (some ⟨g, 0, none⟩) c hr hne (by show 0 < 8; omega) (by show 8 ≤ maxLen; decide) (fun u hu hru => lkrcv_order b (puL i q v t) u hu (some ⟨g, 0, none⟩) c hru (by show 8 ≤ maxLen; decide) (puL_byt hf) (puL_ok i q v t) t1 rfl (by rw [t2]; exact hq) hs)
  rw [t1, t2, t3, t4] at this
  exact this
set_option maxRecDepth 100000 in
set_option maxHeartbeats 8000000 in
theorem lkstep_nil (a : Option Addr) (n cap : Nat) (w : World) : Calls Try.prog 113 #[.pointer none, .slice a n cap] w fun e w' => e = .returned (.tuple #[.agg #[.int .i64 0, .int .i64 0, .int .i64 0, .int .i64 0], .int .i64 1]) ∧ Below w.heap.size w w' := by
  go_enter Try.func113, Try.ntmps113
  go_wp2
  exact bodyPost_ret (v := .tuple #[.agg #[.int .i64 0, .int .i64 0, .int .i64 0, .int .i64 0], .int .i64 1]) (by simp [results, Try.results113, go_sem]) rfl ⟨rfl, (by repeat (first | exact Below.refl _ _ | assumption | apply Below.drew | apply below_drewN | (refine Below.alloc ?_ (by first | exact Nat.le_refl _ | omega | (simp <;> omega)) _) | (refine Below.setCell ?_ (by first | exact Nat.le_refl _ | omega | (simp <;> omega)) _)))⟩
end Go.Proofs.Ytbbmkmkalghaeaa
