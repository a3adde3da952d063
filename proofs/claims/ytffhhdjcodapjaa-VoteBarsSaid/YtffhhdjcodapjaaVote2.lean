/- Package vote: There, Pick; the document's answer for Pick; the chapter's example. -/
import Derived.Test.YtffhhdjcodapjaaVote1
namespace Go.Proofs.Ytffhhdjcodapjaa
open Go.ChangeShapes Go.WideShapes Go.ChangeAt Go.RowKit
set_option linter.unusedVariables false
set_option linter.unusedSimpArgs false

def vtMid (a b c : Int) : Int := max (min a b) (min (max a b) c)
def vtOne (p s x2 e2 tau : Int) : Int × Int := if (e2 == 0) && decide (tau < apt p x2) then (x2, 4) else (p, s)
def vtP (x0 e0 x1 e1 x2 e2 tau : Int) : Int × Int :=
  if (e0 == 0) && (e1 == 0) && (e2 == 0) then (vtMid x0 x1 x2, 5) else if (e0 == 0) && (e1 == 0) then (men x0 x1, 3)
  else if e0 == 0 then vtOne x0 1 x2 e2 tau else if e1 == 0 then vtOne x1 2 x2 e2 tau else if e2 == 0 then (x2, 4) else (0, 0)

theorem six_at (w : World) (x0 e0 x1 e1 x2 e2 : Int) {V u : World} (hV : V = (w.alloc (.cells #[.int .i64 x0, .int .i64 e0, .int .i64 x1, .int .i64 e1, .int .i64 x2, .int .i64 e2] 40))) (h : Below (w.heap.size + 1) V u) : u.cell? ⟨w.heap.size, 0, none⟩ = some (.int .i64 x0) ∧ u.cell? ⟨w.heap.size, 1, none⟩ = some (.int .i64 e0) ∧ u.cell? ⟨w.heap.size, 2, none⟩ = some (.int .i64 x1) ∧ u.cell? ⟨w.heap.size, 3, none⟩ = some (.int .i64 e1) ∧ u.cell? ⟨w.heap.size, 4, none⟩ = some (.int .i64 x2) ∧ u.cell? ⟨w.heap.size, 5, none⟩ = some (.int .i64 e2) := by
  subst hV
  exact ⟨(bc h (by omega)).trans (by go_simp), (bc h (by omega)).trans (by go_simp), (bc h (by omega)).trans (by go_simp), (bc h (by omega)).trans (by go_simp), (bc h (by omega)).trans (by go_simp), (bc h (by omega)).trans (by go_simp)⟩

theorem vmid_any (a b c : Int) (w : World) : Calls Try.prog 48 #[.int .i64 a, .int .i64 b, .int .i64 c] w fun e w' => e = .returned (.int .i64 (vtMid a b c)) ∧ w = w' := by
  go_enter Try.func48, Try.ntmps48
  go_wp2
  all_goals
    go_ret
    exact ⟨ret_int (by unfold vtMid; omega), rfl⟩
set_option maxHeartbeats 1000000 in
theorem vone_any (p pe s x2 e2 tau : Int) (w : World) : Calls Try.prog 50 #[.agg #[.int .i64 p, .int .i64 pe], .int .i64 s, .agg #[.int .i64 x2, .int .i64 e2], .int .i64 tau] w fun r w' => r = .returned (.tuple #[.int .i64 (vtOne p s x2 e2 tau).1, .int .i64 (vtOne p s x2 e2 tau).2]) ∧ Below w.heap.size w w' := by
  have AP := Lib.hid (fun u => apart_any p x2 u)
  have HV := Lib.hid (show vtOne p s x2 e2 tau = (if (e2 == 0) && decide (tau < apt p x2) then (x2, 4) else (p, s)) from rfl)
  generalize apt p x2 = d at *
  generalize vtOne p s x2 e2 tau = q at *
  cases hz : (e2 == 0) <;> cases hd : decide (tau < d)
  all_goals
    go_enter Try.func50, Try.ntmps50
    go_wp2_with ((go_at_call 46; (with_reducible refine (AP.out _).mono ?_); rintro e w' ⟨rfl, rfl⟩))
    go_ret2
    have := HV.out
    rw [hz, hd] at this
    subst this
    exact ⟨rfl, (by repeat (first | exact Below.refl _ _ | assumption | apply Below.drew | apply below_drewN | (refine Below.alloc ?_ (by first | exact Nat.le_refl _ | omega | (simp <;> omega)) _) | (refine Below.setCell ?_ (by first | exact Nat.le_refl _ | omega | (simp <;> omega)) _)))⟩

set_option maxRecDepth 100000 in
set_option maxHeartbeats 4000000 in
theorem vpick_any (x0 e0 x1 e1 x2 e2 tau : Int) (w : World) : Calls Try.prog 22 #[.agg #[.int .i64 x0, .int .i64 e0, .int .i64 x1, .int .i64 e1, .int .i64 x2, .int .i64 e2], .int .i64 tau] w fun r w' => r = .returned (.tuple #[.int .i64 (vtP x0 e0 x1 e1 x2 e2 tau).1, .int .i64 (vtP x0 e0 x1 e1 x2 e2 tau).2]) ∧ Below w.heap.size w w' := by
  have HV := Lib.hid (show vtP x0 e0 x1 e1 x2 e2 tau = (if (e0 == 0) && (e1 == 0) && (e2 == 0) then (vtMid x0 x1 x2, 5) else if (e0 == 0) && (e1 == 0) then (men x0 x1, 3) else if e0 == 0 then vtOne x0 1 x2 e2 tau else if e1 == 0 then vtOne x1 2 x2 e2 tau else if e2 == 0 then (x2, 4) else (0, 0)) from rfl)
  generalize vtP x0 e0 x1 e1 x2 e2 tau = q at *
  have O1 := Lib.hid (fun u => vone_any x0 e0 1 x2 e2 tau u)
  have O2 := Lib.hid (fun u => vone_any x1 e1 2 x2 e2 tau u)
  have MN := Lib.hid (fun u => mean_any x0 x1 u)
  have MD := Lib.hid (fun u => vmid_any x0 x1 x2 u)
  have AV := Lib.hid (fun u => vavail_any x0 e0 x1 e1 x2 e2 u)
  have SX := Lib.hid (fun u h => six_at w x0 e0 x1 e1 x2 e2 (u := u) rfl h)
  generalize vtOne x0 1 x2 e2 tau = s1 at *
  generalize vtOne x1 2 x2 e2 tau = s2 at *
  generalize men x0 x1 = mn at *
  generalize vtMid x0 x1 x2 = md at *
  have hz : w.heap.size + 1 = (w.alloc (.cells #[.int .i64 x0, .int .i64 e0, .int .i64 x1, .int .i64 e1, .int .i64 x2, .int .i64 e2] 40)).heap.size := by simp
  have hb0 : Below w.heap.size w (w.alloc (.cells #[.int .i64 x0, .int .i64 e0, .int .i64 x1, .int .i64 e1, .int .i64 x2, .int .i64 e2] 40)) := (by repeat (first | exact Below.refl _ _ | assumption | apply Below.drew | apply below_drewN | (refine Below.alloc ?_ (by first | exact Nat.le_refl _ | omega | (simp <;> omega)) _) | (refine Below.setCell ?_ (by first | exact Nat.le_refl _ | omega | (simp <;> omega)) _)))
  cases z0 : (e0 == 0) <;> cases z1 : (e1 == 0) <;> cases z2 : (e2 == 0)
  all_goals
    rw [z0, z1, z2] at AV
    go_enter Try.func22, Try.ntmps22
    go_wp2_with fail
    refine (AV.out _).mono ?_
    rintro e w1 ⟨rfl, hb1⟩
    have B1 : Below (w.heap.size + 1) (w.alloc (.cells #[.int .i64 x0, .int .i64 e0, .int .i64 x1, .int .i64 e1, .int .i64 x2, .int .i64 e2] 40)) w1 := hb1.mono (by simp)
    obtain ⟨k0, k1, k2, k3, k4, k5⟩ := SX.out _ B1
    have hbel : Below w.heap.size w w1 := hb0.trans (hb1.mono (by simp))
    have hsz : w.heap.size < w1.heap.size := by have := B1.size; simp at this; omega
    clear hb1 AV B1
    go_wp2_with (first
      | ((go_at_call 48; (with_reducible refine (MD.out _).mono ?_); rintro e w' ⟨rfl, rfl⟩))
      | ((go_at_call 49; (with_reducible refine (MN.out _).mono ?_); rintro e w' ⟨rfl, rfl⟩))
      | ((go_at_call 50; (first | (with_reducible refine (O1.out _).mono ?_) | (with_reducible refine (O2.out _).mono ?_)); rintro e w2 ⟨rfl, hb2⟩)))
    go_ret2
    have hv := HV.out
    simp only [z0, z1, z2, Bool.and_true, Bool.and_false, Bool.and_self, if_true, if_false, Bool.false_eq_true] at hv
    subst hv
    first
      | exact ⟨rfl, (hbel.alloc hbel.size _).trans (hb2.mono (by simp; omega))⟩
      | exact ⟨rfl, hbel.alloc hbel.size _⟩
end Go.Proofs.Ytffhhdjcodapjaa
