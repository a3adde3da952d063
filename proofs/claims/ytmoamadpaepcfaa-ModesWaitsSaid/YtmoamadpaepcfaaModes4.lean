/- The law ModesNew, walked. -/
import Derived.Test.YtmoamadpaepcfaaModes3
namespace Go.Proofs.Ytmoamadpaepcfaa
open Go.ChangeShapes Go.WideShapes Go.ChangeAt Go.RowKit
set_option linter.unusedVariables false

theorem askd_cases (wm a bb s d : Bool) : askd wm a bb s d = 0 ∨ askd wm a bb s d = 1 ∨ askd wm a bb s d = 2 ∨ askd wm a bb s d = 3 ∨ askd wm a bb s d = 4 ∨ askd wm a bb s d = 5 := by
  cases wm <;> cases a <;> cases bb <;> cases s <;> cases d <;> decide

/-- The facts of a row of the table, in whatever world that keeps what was. -/
theorem facts_at {w : World} {t : Option Addr} {rows : List (List Value)} (h : Tab [none, none, none, none, none] w t rows) {i : Nat} (hi : i < rows.length) :
    ∃ tb off wm a bb s d, t = some ⟨tb, off, none⟩ ∧ tb < w.heap.size ∧ ∀ v, Below w.heap.size w v → v.cell? ⟨tb, off + i * 5, none⟩ = some (.bool wm) ∧ v.cell? ⟨tb, off + i * 5 + 1, none⟩ = some (.bool a) ∧
      v.cell? ⟨tb, off + i * 5 + 2, none⟩ = some (.bool bb) ∧ v.cell? ⟨tb, off + i * 5 + 3, none⟩ = some (.bool s) ∧ v.cell? ⟨tb, off + i * 5 + 4, none⟩ = some (.bool d) := by
  obtain ⟨tb, off, r, rfl, htb, hr, hfl, hcell⟩ := h.at hi
  obtain ⟨wm, _, rfl, hfl⟩ := hfl
  obtain ⟨a, _, rfl, hfl⟩ := hfl
  obtain ⟨bb, _, rfl, hfl⟩ := hfl
  obtain ⟨s, _, rfl, hfl⟩ := hfl
  obtain ⟨d, _, rfl, hfl⟩ := hfl
  exact ⟨tb, off, wm, a, bb, s, d, rfl, htb, fun v hv => ⟨(bc hv htb).trans (hcell 0 _ rfl), (bc hv htb).trans (hcell 1 _ rfl), (bc hv htb).trans (hcell 2 _ rfl), (bc hv htb).trans (hcell 3 _ rfl), (bc hv htb).trans (hcell 4 _ rfl)⟩⟩

set_option maxHeartbeats 400000 in
theorem mstep_nil (wm a bb s d : Bool) (w : World) :
    Calls Try.prog 28 #[.pointer none, .agg #[.bool wm, .bool a, .bool bb, .bool s, .bool d]] w fun e w' => e = .returned (.int .i64 5) ∧ Below w.heap.size w w' := by
  go_enter Try.func28, Try.ntmps28
  go_wp2
  go_ret
  exact ⟨rfl, (by repeat (first | exact Below.refl _ _ | assumption | apply Below.drew | apply below_drewN | (refine Below.alloc ?_ (by first | exact Nat.le_refl _ | omega | (simp <;> omega)) _) | (refine Below.setCell ?_ (by first | exact Nat.le_refl _ | omega | (simp <;> omega)) _)))⟩
set_option maxHeartbeats 400000 in
theorem mmode_nil (w : World) : Calls Try.prog 29 #[.pointer none] w fun e w' => e = .returned (.int .i64 5) ∧ w = w' := by
  go_enter Try.func29, Try.ntmps29
  go_wp2
  go_ret
  exact ⟨rfl, rfl⟩
set_option maxHeartbeats 400000 in
theorem mchg_nil (w : World) : Calls Try.prog 30 #[.pointer none] w fun e w' => e = .returned (.int .i64 0) ∧ w = w' := by
  go_enter Try.func30, Try.ntmps30
  go_wp2
  go_ret
  exact ⟨rfl, rfl⟩
set_option maxHeartbeats 400000 in
theorem mreset_nil (w : World) : Calls Try.prog 27 #[.pointer none] w fun e w' => e = .returned (.tuple #[]) ∧ w = w' := by
  go_enter Try.func27, Try.ntmps27
  go_wp2
  go_end0
  exact ⟨rfl, rfl⟩

set_option maxHeartbeats 1000000 in
theorem law_ModesNew (p : Int) (wm a bb s d : Bool) (w : World) :
    Calls Try.prog 7 #[.int .i64 p, .agg #[.bool wm, .bool a, .bool bb, .bool s, .bool d]] w fun e w' => e = .returned (.bool true) ∧ Below w.heap.size w w' := by
  have hbq : Below w.heap.size w (w.alloc (.cells #[.bool wm, .bool a, .bool bb, .bool s, .bool d] 42)) := (Below.refl _ _).alloc (Nat.le_refl _) _
  by_cases hp : 1 ≤ p ∧ p ≤ 10000
  · obtain ⟨p1, p2⟩ := hp
    go_enter Try.func7, Try.ntmps7
    go_wp2_with fail
    refine (mnew_ok p _ p1 p2).mono ?_
    rintro e w1 ⟨b, hb, rfl, h1, hb1⟩
    obtain ⟨hc1, hf1⟩ := bcell hb1
    have hz1 : w.heap.size < w1.heap.size := by have := hb1.size; simp at this; omega
    have hbel := hbq.trans (hb1.mono hbq.size)
    go_wp2_with (go_at_call 27; refine (mreset_nil _).mono ?_; rintro e w1 ⟨rfl, rfl⟩)
    refine (mstep_nil wm a bb s d _).mono ?_
    rintro e w2 ⟨rfl, hb2⟩
    have h2 := h1.bel hb2
    have hbel := hbel.trans (hb2.mono hbel.size)
    clear h1 hc1 hf1
    go_wp2_with (first | (go_at_call 29; (with_reducible refine (mmode_nil _).mono ?_); rintro e w1 ⟨rfl, rfl⟩) | (go_at_call 30; (with_reducible refine (mchg_nil _).mono ?_); rintro e w1 ⟨rfl, rfl⟩) | (go_at_call 29; refine (mmode_any b _ h2).mono ?_; rintro e w1 ⟨rfl, rfl⟩) | (go_at_call 30; refine (mchg_any b _ h2).mono ?_; rintro e w1 ⟨rfl, rfl⟩) | (go_at_call 31; refine (lives25 _).mono ?_; rintro e w1 ⟨rfl, hb3⟩))
    go_ret
    exact ⟨rfl, hbel.trans (hb3.mono hbel.size)⟩
  · go_enter Try.func7, Try.ntmps7
    go_wp2_with (first | (go_at_call 26; refine (mnew_no p _ hp).mono ?_; rintro e w1 ⟨rfl, rfl⟩) | (go_at_call 27; refine (mreset_nil _).mono ?_; rintro e w1 ⟨rfl, rfl⟩))
    refine (mstep_nil wm a bb s d _).mono ?_
    rintro e w2 ⟨rfl, hb2⟩
    have hbel := hbq.trans (hb2.mono hbq.size)
    go_wp2_with (first | (go_at_call 29; (with_reducible refine (mmode_nil _).mono ?_); rintro e w1 ⟨rfl, rfl⟩) | (go_at_call 30; (with_reducible refine (mchg_nil _).mono ?_); rintro e w1 ⟨rfl, rfl⟩) | (go_at_call 31; refine (lives25 _).mono ?_; rintro e w1 ⟨rfl, hb3⟩))
    all_goals
      go_ret
      exact ⟨rfl, hbel.trans (hb3.mono hbel.size)⟩

theorem msC_bd (p md n c k : Int) (s : Bool) : c ≤ msC p md n c k s ∧ msC p md n c k s ≤ c + 1 := by
  unfold msC; split
  · omega
  · split <;> omega

end Go.Proofs.Ytmoamadpaepcfaa
