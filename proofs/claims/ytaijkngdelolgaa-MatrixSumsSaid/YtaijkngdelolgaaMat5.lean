/- Package matrix: Apply, Det; the chapter's example. -/
import Derived.Test.YtaijkngdelolgaaMat4
namespace Go.Proofs.Ytaijkngdelolgaa
open Go.ChangeShapes Go.WideShapes Go.ChangeAt Go.RowKit
set_option linter.unusedVariables false
set_option linter.unusedSimpArgs false
def apl (X A : Nat → Int) (t : Nat) : Int := dtI (fun k => X (t * 3 + k)) A
def vC (M : Nat → Int) (n : Nat) : List Value := (List.range 3).map fun t => .int .i64 (if t < n then M t else 0)
theorem vC_len (M : Nat → Int) (n : Nat) : (vC M n).length = 3 := by simp [vC]
theorem vC_set (M : Nat → Int) (n : Nat) (h : n < 3) : (vC M n).set n (.int .i64 (M n)) = vC M (n + 1) := by
  rcases (show n = 0 ∨ n = 1 ∨ n = 2 by omega) with rfl | rfl | rfl <;> rfl
theorem vC_zero (M : Nat → Int) : vC M 0 = [.int .i64 0, .int .i64 0, .int .i64 0] := rfl
theorem vC_all (M : Nat → Int) : vC M 3 = [.int .i64 (M 0), .int .i64 (M 1), .int .i64 (M 2)] := rfl
theorem vC_some (M : Nat → Int) (n t : Nat) (h : t < 3) : ∃ v, (vC M n)[t]? = some v := ⟨_, List.getElem?_eq_getElem (by rw [vC_len]; exact h)⟩
theorem vl_laid {s : Nat} {u : World} {a b c : Value} (h : Held s [a, b, c] u) (X : Nat → Int) : ∃ u9, u9 = (((u.setCell ⟨s, 0, none⟩ (.int .i64 (X 0))).setCell ⟨s, 1, none⟩ (.int .i64 (X 1))).setCell ⟨s, 2, none⟩ (.int .i64 (X 2))) ∧ Held s [.int .i64 (X 0), .int .i64 (X 1), .int .i64 (X 2)] u9 ∧ Below s u u9 :=
  ⟨_, rfl, ((h.set 0 (.int .i64 (X 0)) (by simp)).set 1 (.int .i64 (X 1)) (by simp)).set 2 (.int .i64 (X 2)) (by simp), by repeat (first | exact Below.refl _ _ | (refine Below.setCell ?_ (by exact Nat.le_refl _) _))⟩
theorem mapl_box (w : World) (X A : Nat → Int) : ∃ V, V = ((((w.alloc (.cells #[.int .i64 (X 0), .int .i64 (X 1), .int .i64 (X 2), .int .i64 (X 3), .int .i64 (X 4), .int .i64 (X 5), .int .i64 (X 6), .int .i64 (X 7), .int .i64 (X 8)] 72)).alloc (.cells #[.int .i64 (A 0), .int .i64 (A 1), .int .i64 (A 2)] 80)).alloc (.cells #[.int .i64 0, .int .i64 0, .int .i64 0] 80)).alloc (.cells #[.int .i64 0, .int .i64 0, .int .i64 0] 80)) ∧ Below w.heap.size w V ∧ Held w.heap.size [.int .i64 (X 0), .int .i64 (X 1), .int .i64 (X 2), .int .i64 (X 3), .int .i64 (X 4), .int .i64 (X 5), .int .i64 (X 6), .int .i64 (X 7), .int .i64 (X 8)] V ∧ Held (w.heap.size + 1) [.int .i64 (A 0), .int .i64 (A 1), .int .i64 (A 2)] V ∧ Held (w.heap.size + 2) [.int .i64 0, .int .i64 0, .int .i64 0] V ∧ Held (w.heap.size + 3) [.int .i64 0, .int .i64 0, .int .i64 0] V ∧ V.heap.size = w.heap.size + 4 := by
  refine ⟨_, rfl, (by repeat (first | exact Below.refl _ _ | assumption | apply Below.drew | apply below_drewN | (refine Below.alloc ?_ (by first | exact Nat.le_refl _ | omega | (simp <;> omega)) _) | (refine Below.setCell ?_ (by first | exact Nat.le_refl _ | omega | (simp <;> omega)) _))), ?_, ?_, ?_, ?_, by simp⟩
  · have := ((((Held.new w [.int .i64 (X 0), .int .i64 (X 1), .int .i64 (X 2), .int .i64 (X 3), .int .i64 (X 4), .int .i64 (X 5), .int .i64 (X 6), .int .i64 (X 7), .int .i64 (X 8)] 72).alloc (.cells #[.int .i64 (A 0), .int .i64 (A 1), .int .i64 (A 2)] 80)).alloc (.cells #[.int .i64 0, .int .i64 0, .int .i64 0] 80)).alloc (.cells #[.int .i64 0, .int .i64 0, .int .i64 0] 80))
    simpa using this
  · have := (((Held.new (w.alloc (.cells #[.int .i64 (X 0), .int .i64 (X 1), .int .i64 (X 2), .int .i64 (X 3), .int .i64 (X 4), .int .i64 (X 5), .int .i64 (X 6), .int .i64 (X 7), .int .i64 (X 8)] 72)) [.int .i64 (A 0), .int .i64 (A 1), .int .i64 (A 2)] 80).alloc (.cells #[.int .i64 0, .int .i64 0, .int .i64 0] 80)).alloc (.cells #[.int .i64 0, .int .i64 0, .int .i64 0] 80))
    simpa using this
  · have := ((Held.new ((w.alloc (.cells #[.int .i64 (X 0), .int .i64 (X 1), .int .i64 (X 2), .int .i64 (X 3), .int .i64 (X 4), .int .i64 (X 5), .int .i64 (X 6), .int .i64 (X 7), .int .i64 (X 8)] 72)).alloc (.cells #[.int .i64 (A 0), .int .i64 (A 1), .int .i64 (A 2)] 80)) [.int .i64 0, .int .i64 0, .int .i64 0] 80).alloc (.cells #[.int .i64 0, .int .i64 0, .int .i64 0] 80))
    simpa using this
  · have := (Held.new (((w.alloc (.cells #[.int .i64 (X 0), .int .i64 (X 1), .int .i64 (X 2), .int .i64 (X 3), .int .i64 (X 4), .int .i64 (X 5), .int .i64 (X 6), .int .i64 (X 7), .int .i64 (X 8)] 72)).alloc (.cells #[.int .i64 (A 0), .int .i64 (A 1), .int .i64 (A 2)] 80)).alloc (.cells #[.int .i64 0, .int .i64 0, .int .i64 0] 80)) [.int .i64 0, .int .i64 0, .int .i64 0] 80)
    simpa using this
def mnr (X : Nat → Int) (i j : Nat) : Int := clp (prd (X (3 + i)) (X (6 + j)) - prd (X (3 + j)) (X (6 + i)))
def mnv (X : Nat → Int) : Nat → Int
  | 0 => mnr X 1 2
  | 1 => mnr X 2 0
  | _ + 2 => mnr X 0 1
theorem mnv0 (X : Nat → Int) : mnv X 0 = mnr X 1 2 := rfl
theorem mnv1 (X : Nat → Int) : mnv X 1 = mnr X 2 0 := rfl
theorem mnv2 (X : Nat → Int) : mnv X 2 = mnr X 0 1 := rfl
def det (X : Nat → Int) : Int := dtI X (mnv X)
theorem mdot' (a0 a1 a2 b0 b1 b2 : Int) (w : World) : Calls Try.prog 60 #[.agg #[.int .i64 a0, .int .i64 a1, .int .i64 a2], .agg #[.int .i64 b0, .int .i64 b1, .int .i64 b2]] w fun e w' => e = .returned (.int .i64 (clp (prd a0 b0 + prd a1 b1 + prd a2 b2))) ∧ Below w.heap.size w w' :=
  mdot (fun t => match t with | 0 => a0 | 1 => a1 | _ => a2) (fun t => match t with | 0 => b0 | 1 => b1 | _ => b2) w
set_option maxRecDepth 100000 in
set_option maxHeartbeats 8000000 in
theorem lives40 (w : World) : Calls Try.prog 40 #[] w fun e w' => e = .returned (.bool true) ∧ Below w.heap.size w w' := by
  have MD2 := fun u => mdot' 2097152 0 0 3145728 0 0 u
  rw [prd_zero, show prd 2097152 3145728 = 6291456 by
    rw [prd_is, show clp 2097152 = 2097152 by unfold clp; omega, show clp 3145728 = 3145728 by unfold clp; omega]
    unfold clv
    omega, show clp (6291456 + 0 + 0) = 6291456 by unfold clp; omega] at MD2
  replace MD2 := Lib.hid MD2
  go_enter Try.func40, Try.ntmps40
  go_wp2_with fail
  refine (MD2.out _).mono ?_
  rintro e w1 ⟨rfl, hb1⟩
  go_wp2
  go_ret
  exact ⟨rfl, hb1⟩
end Go.Proofs.Ytaijkngdelolgaa
