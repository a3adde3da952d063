/- slices.Min and slices.Max over integers, hull.Of, and the example of the chapter. -/
import Derived.Test.YtecpmffmmiogfaaGreatHull1
namespace Go.Proofs.YtecpmffmmiogfaaGreat
open Go.ChangeShapes Go.WideShapes Go.ChangeAt Go.RowKit
set_option linter.unusedVariables false

def lmin : List Int → Int
  | [] => 0
  | x :: r => r.foldl (fun m n => if n < m then n else m) x
theorem lmin_snoc (l : List Int) (n : Int) (h : 0 < l.length) : lmin (l ++ [n]) = if n < lmin l then n else lmin l := by
  cases l with
  | nil => simp at h
  | cons x r =>
    show (r ++ [n]).foldl _ x = _
    rw [List.foldl_append]
    rfl

set_option maxHeartbeats 400000 in
theorem slmin_any (a : Option Addr) (cap : Nat) (l : List Int) (w : World) (hr : RowIs .i64 w a l) (hl : l.length ≤ maxLen) (h0 : 0 < l.length) :
    Calls Tryz.prog 71 #[.slice a l.length cap] w fun e w' => e = .returned (.int .i64 (lmin l)) ∧ w = w' := by
  unfold maxLen at hl
  obtain ⟨b, off, rfl, hb, hc0⟩ := hr.at h0
  have hc0 : w.cell? ⟨b, off, none⟩ = some (.int .i64 (l.getD 0 0)) := hc0
  have E0 : Hid (lmin (l.take 1) = l.getD 0 0) := by
    cases l with
    | nil => simp at h0
    | cons x r => rfl
  generalize l.getD 0 0 = x0 at hc0 E0
  have hlen : ¬ (l.length : Int) < 1 := by omega
  have hpos : (0 : Int) < (l.length : Int) := by omega
  go_enter Tryz.func71, Tryz.ntmps71
  go_wp2
  go_loop [3, 4] (fun m i => ∃ k : Nat, 1 ≤ k ∧ k ≤ l.length ∧ i = .int .i64 k ∧ m = .int .i64 (lmin (l.take k))) (fun _ i => l.length - (intOf i).toNat)
  case atStart => exact ⟨1, Nat.le_refl _, h0, rfl, by rw [E0.out]⟩
  case round =>
    obtain ⟨k, hk1, hk, rfl, rfl⟩ := hrel
    by_cases hlt : k < l.length
    · have hc : w.cell? ⟨b, off + k, none⟩ = some (.int .i64 (l.getD k 0)) := by
        obtain ⟨b', off', e, _, h⟩ := hr.at hlt
        simp at e
        obtain ⟨rfl, rfl⟩ := e
        exact h
      have HS := Lib.hid (lmin_snoc (l.take k) (l.getD k 0) (by simp; omega))
      rw [← take_snoc hlt] at HS
      generalize l.getD k 0 = x at hc HS
      generalize lmin (l.take k) = m at HS ⊢
      clear hr
      go_wp2
      all_goals
        go_round
        case rel => exact ⟨k + 1, by omega, by omega, by go_num, by first | (rw [HS.out]; done) | (rw [HS.out]; exact congrArg (Value.int IntKind.i64) (by omega))⟩
        case measure => simp [intOf]; omega
    · have hk' : k = l.length := by omega
      have HT : Hid (l.take k = l) := by rw [hk']; exact List.take_length
      clear hk'
      go_wp2
      go_ret
      exact ⟨ret_int (by rw [HT.out]), rfl⟩

def lmax : List Int → Int
  | [] => 0
  | x :: r => r.foldl (fun m n => if m < n then n else m) x
theorem lmax_snoc (l : List Int) (n : Int) (h : 0 < l.length) : lmax (l ++ [n]) = if lmax l < n then n else lmax l := by
  cases l with
  | nil => simp at h
  | cons x r =>
    show (r ++ [n]).foldl _ x = _
    rw [List.foldl_append]
    rfl

set_option maxHeartbeats 400000 in
theorem slmax_any (a : Option Addr) (cap : Nat) (l : List Int) (w : World) (hr : RowIs .i64 w a l) (hl : l.length ≤ maxLen) (h0 : 0 < l.length) :
    Calls Tryz.prog 72 #[.slice a l.length cap] w fun e w' => e = .returned (.int .i64 (lmax l)) ∧ w = w' := by
  unfold maxLen at hl
  obtain ⟨b, off, rfl, hb, hc0⟩ := hr.at h0
  have hc0 : w.cell? ⟨b, off, none⟩ = some (.int .i64 (l.getD 0 0)) := hc0
  have E0 : Hid (lmax (l.take 1) = l.getD 0 0) := by
    cases l with
    | nil => simp at h0
    | cons x r => rfl
  generalize l.getD 0 0 = x0 at hc0 E0
  have hlen : ¬ (l.length : Int) < 1 := by omega
  have hpos : (0 : Int) < (l.length : Int) := by omega
  go_enter Tryz.func72, Tryz.ntmps72
  go_wp2
  go_loop [3, 4] (fun m i => ∃ k : Nat, 1 ≤ k ∧ k ≤ l.length ∧ i = .int .i64 k ∧ m = .int .i64 (lmax (l.take k))) (fun _ i => l.length - (intOf i).toNat)
  case atStart => exact ⟨1, Nat.le_refl _, h0, rfl, by rw [E0.out]⟩
  case round =>
    obtain ⟨k, hk1, hk, rfl, rfl⟩ := hrel
    by_cases hlt : k < l.length
    · have hc : w.cell? ⟨b, off + k, none⟩ = some (.int .i64 (l.getD k 0)) := by
        obtain ⟨b', off', e, _, h⟩ := hr.at hlt
        simp at e
        obtain ⟨rfl, rfl⟩ := e
        exact h
      have HS := Lib.hid (lmax_snoc (l.take k) (l.getD k 0) (by simp; omega))
      rw [← take_snoc hlt] at HS
      generalize l.getD k 0 = x at hc HS
      generalize lmax (l.take k) = m at HS ⊢
      clear hr
      go_wp2
      all_goals
        go_round
        case rel => exact ⟨k + 1, by omega, by omega, by go_num, by first | (rw [HS.out]; done) | (rw [HS.out]; exact congrArg (Value.int IntKind.i64) (by omega))⟩
        case measure => simp [intOf]; omega
    · have hk' : k = l.length := by omega
      have HT : Hid (l.take k = l) := by rw [hk']; exact List.take_length
      clear hk'
      go_wp2
      go_ret
      exact ⟨ret_int (by rw [HT.out]), rfl⟩

def ofB (l : List Int) : Bool := decide (0 < l.length)
set_option maxHeartbeats 400000 in
theorem of_any (a : Option Addr) (cap : Nat) (l : List Int) (w : World) (hr : RowIs .i64 w a l) (hl : l.length ≤ maxLen) :
    Calls Tryz.prog 43 #[.slice a l.length cap] w fun e w' => e = .returned (.tuple #[.agg #[.int .i64 (lmin l), .int .i64 (lmax l)], .bool (ofB l)]) ∧ Below w.heap.size w w' := by
  have hr1 := hr.below ((Below.refl w.heap.size w).alloc (Nat.le_refl _) (.cells #[.int .i64 0, .int .i64 0] 51))
  by_cases h0 : 0 < l.length
  · have eB : ofB l = true := by unfold ofB; exact decide_eq_true h0
    have hz : ((l.length : Int) == 0) = false := beq_eq_false_iff_ne.2 (by omega)
    rw [eB]
    clear eB
    go_enter Tryz.func43, Tryz.ntmps43
    go_wp2_with (first | (go_at_call 71; refine (slmin_any _ _ l _ hr1 hl h0).mono ?_; rintro e w1 ⟨rfl, rfl⟩) | (go_at_call 72; refine (slmax_any _ _ l _ hr1 hl h0).mono ?_; rintro e w1 ⟨rfl, rfl⟩))
    exact bodyPost_ret (v := .tuple #[.agg #[.int .i64 (lmin l), .int .i64 (lmax l)], .bool true]) (by simp [results, Tryz.results43, go_sem]) rfl ⟨rfl, (by repeat (first | exact Below.refl _ _ | assumption | apply Below.drew | apply below_drewN | (refine Below.alloc ?_ (by first | exact Nat.le_refl _ | omega | (simp <;> omega)) _) | (refine Below.setCell ?_ (by first | exact Nat.le_refl _ | omega | (simp <;> omega)) _)))⟩
  · obtain rfl : l = [] := by
      cases l
      · rfl
      · simp at h0
    go_enter Tryz.func43, Tryz.ntmps43
    go_wp2
    exact bodyPost_ret (v := .tuple #[.agg #[.int .i64 0, .int .i64 0], .bool false]) (by simp [results, Tryz.results43, go_sem]) rfl ⟨rfl, (by repeat (first | exact Below.refl _ _ | assumption | apply Below.drew | apply below_drewN | (refine Below.alloc ?_ (by first | exact Nat.le_refl _ | omega | (simp <;> omega)) _) | (refine Below.setCell ?_ (by first | exact Nat.le_refl _ | omega | (simp <;> omega)) _)))⟩

theorem row3 (w : World) (a b c : Int) (t : TypeId) : RowIs .i64 (w.alloc (.cells #[.int .i64 a, .int .i64 b, .int .i64 c] t)) (some ⟨w.heap.size, 0, none⟩) [a, b, c] := by
  refine .inr ⟨_, 0, rfl, by simp, fun i hi => ?_⟩
  match i, hi with
  | 0, _ => simp
  | 1, _ => simp
  | 2, _ => simp

set_option maxHeartbeats 400000 in
theorem lives35 (w : World) : Calls Tryz.prog 22 #[] w fun e w' => e = .returned (.bool true) ∧ Below w.heap.size w w' := by
  go_enter Tryz.func22, Tryz.ntmps22
  go_wp2_with fail
  refine (of_any _ 3 [3, 1, 2] _ (row3 w 3 1 2 _) (by unfold maxLen; simp)).mono ?_
  rintro e w1 ⟨rfl, hb1⟩
  rw [show lmin [3, 1, 2] = 1 from by decide, show lmax [3, 1, 2] = 3 from by decide, show ofB [3, 1, 2] = true from by decide]
  have hb2 : Below w.heap.size w w1 := Below.trans (by repeat (first | exact Below.refl _ _ | assumption | apply Below.drew | apply below_drewN | (refine Below.alloc ?_ (by first | exact Nat.le_refl _ | omega | (simp <;> omega)) _) | (refine Below.setCell ?_ (by first | exact Nat.le_refl _ | omega | (simp <;> omega)) _))) (hb1.mono (by simp))
  have hz := hb2.size
  clear hb1
  go_wp2
  go_ret
  exact ⟨rfl, (by repeat (first | exact Below.refl _ _ | assumption | apply Below.drew | apply below_drewN | (refine Below.alloc ?_ (by first | exact Nat.le_refl _ | omega | (simp <;> omega)) _) | (refine Below.setCell ?_ (by first | exact Nat.le_refl _ | omega | (simp <;> omega)) _)))⟩
end Go.Proofs.YtecpmffmmiogfaaGreat
