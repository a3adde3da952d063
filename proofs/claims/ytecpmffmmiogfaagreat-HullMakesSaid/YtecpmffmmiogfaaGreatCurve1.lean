/- Package curve: whether a curve is right, and what it tells at a place; walked. -/
import Derived.Test.YtecpmffmmiogfaaGreatMgWg
import Derived.Test.YtecpmffmmiogfaaGreatReg
import Derived.Test.YtecpmffmmiogfaaGreatSearch
namespace Go.Proofs.YtecpmffmmiogfaaGreat
open Go.ChangeShapes Go.WideShapes Go.ChangeAt Go.RowKit
set_option linter.unusedVariables false
set_option linter.unusedSimpArgs false

/-- Does a row go up by some each time? -/
def risB (l : List Int) : Bool := decide (∀ i, i < l.length → 1 ≤ i → l.getD (i - 1) 0 < l.getD i 0)
def insB (l : List Int) : Bool := decide (∀ i, i < l.length → -549755813887 ≤ l.getD i 0 ∧ l.getD i 0 ≤ 549755813887)
def rgtB (X Y : List Int) : Bool := decide (2 ≤ X.length) && decide (X.length ≤ 64) && decide (Y.length = X.length) && risB X && insB X && insB Y

theorem RowIs.bel {k : IntKind} {w w' : World} {a : Option Addr} {l : List Int} (h : RowIs k w a l) (hb : Below w.heap.size w w') : RowIs k w' a l := h.below hb
/-- What is read of a row, from an elder world's bound on. -/
theorem RowIs.old {k : IntKind} {w w' : World} {a : Option Addr} {l : List Int} (h : RowIs k w a l) {B : Nat} (hB : w.heap.size ≤ B) (hb : Below B w w') : RowIs k w' a l := h.below (hb.mono hB)

set_option maxRecDepth 100000 in
set_option maxHeartbeats 4000000 in
theorem crising_any (a : Option Addr) (cap : Nat) (l : List Int) (w : World) (hr : RowIs .i64 w a l) (hL : l.length ≤ 300) :
    Calls Tryz.prog 102 #[.slice a l.length cap] w fun e w' => e = .returned (.bool (risB l)) ∧ Below w.heap.size w w' := by
  have HR := Lib.hid hr
  clear hr
  go_enter Tryz.func102, Tryz.ntmps102
  go_wp2
  go_loopw [3] (fun i v => ∃ j : Nat, (j + 1 ≤ l.length ∨ j = 0) ∧ i = .int .i64 ((j : Int) + 1) ∧ Below w.heap.size w v ∧ Hid (∀ i, i < j + 1 → 1 ≤ i → l.getD (i - 1) 0 < l.getD i 0)) (fun i _ => l.length + 1 - (intOf i).toNat)
  case atStart => exact ⟨0, .inr rfl, rfl, Below.refl _ _, Lib.hid (fun i a b => by omega)⟩
  case round =>
    obtain ⟨j, hj, rfl, hb, hU⟩ := hrel
    by_cases hlt : j + 1 < l.length
    · obtain ⟨b, off, ea, hblk, h1⟩ := (HR.out.below hb).at hlt
      obtain ⟨b', off', ea', hblk', h2⟩ := (HR.out.below hb).at (show j < l.length by omega)
      rw [ea] at ea'
      injection ea' with ea'
      injection ea' with e1 e2
      subst e1 e2
      replace ea := Lib.hid ea
      have hlt1 : (j : Int) + 1 < (l.length : Int) := by omega
      have hlt2 : (j : Int) < (l.length : Int) := by omega
      have hlt0 : 0 ≤ (j : Int) + 1 := by omega
      have et : ((j : Int) + 1).toNat = j + 1 := by omega
      have hw1 : IntKind.i64.wrap (j : Int) = (j : Int) := IntWalk.i64_in _ ⟨by omega, by omega⟩
      have hw2 : 0 ≤ (j : Int) := by omega
      have HS := Lib.hid (fun (h : l.getD j 0 < l.getD (j + 1) 0) i (a : i < j + 1 + 1) (b : 1 ≤ i) => show l.getD (i - 1) 0 < l.getD i 0 from by
        by_cases e : i = j + 1
        · subst e; exact h
        · exact hU.out i (by omega) b)
      have HF := Lib.hid (fun (h : l.getD (j + 1) 0 ≤ l.getD j 0) => show risB l = false from decide_eq_false (fun hh => by
        have := hh (j + 1) hlt (by omega)
        rw [show j + 1 - 1 = j by omega] at this
        omega))
      generalize l.getD (j + 1) 0 = p at *
      generalize l.getD j 0 = q at *
      have EA := ea.out
      subst EA
      by_cases hpq : p ≤ q
      · have d1 : decide (p ≤ q) = true := decide_eq_true hpq
        have hf := Lib.hid (HF.out hpq)
        go_wp2_with fail
        refine region_still [] [(.free, 0), (.free, 1), (.free, 2), (.take, 3), (.free, 4), (.free, 5), (.free, 6), (.free, 7), (.take, 8), (.free, 9)] _ (by kernel_rfl) (by kernel_rfl) (by kernel_rfl) (by kernel_rfl) (by decide) rfl (fun _ _ _ _ _ h => h) ?_
        simp only [List.filterMap_cons, List.filterMap_nil, List.getElem?_toArray, List.getElem?_cons_zero, List.getElem?_cons_succ, Option.map_some]
        iterate 3
          first
            | (refine mv_free ?_ (Or.inl ⟨by rfl, ?_⟩) (rfl) ?_
               rotate_left 1
               · intro u
                 go_simp
                 try with_reducible rfl
               simp only [Act.put, List.setIfInBounds_toArray, List.set_cons_zero, List.set_cons_succ])
            | (refine mv_free _ (Or.inr ⟨by rfl, rfl⟩) (rfl) ?_
               simp only [Act.put, List.setIfInBounds_toArray, List.set_cons_zero, List.set_cons_succ])
        iterate 1
          first
            | (refine mv_take ?_ (Or.inl ⟨by rfl, ?_⟩) (rfl) ?_
               rotate_left 1
               · intro u hu
                 (try dsimp only at hu)
                 go_simp
                 try with_reducible rfl
               simp only [Act.put, List.setIfInBounds_toArray, List.set_cons_zero, List.set_cons_succ])
            | (refine mv_take _ (Or.inr ⟨by rfl, rfl⟩) (rfl) ?_
               simp only [Act.put, List.setIfInBounds_toArray, List.set_cons_zero, List.set_cons_succ])
        iterate 4
          first
            | (refine mv_free ?_ (Or.inl ⟨by rfl, ?_⟩) (rfl) ?_
               rotate_left 1
               · intro u
                 go_simp
                 try with_reducible rfl
               simp only [Act.put, List.setIfInBounds_toArray, List.set_cons_zero, List.set_cons_succ])
            | (refine mv_free _ (Or.inr ⟨by rfl, rfl⟩) (rfl) ?_
               simp only [Act.put, List.setIfInBounds_toArray, List.set_cons_zero, List.set_cons_succ])
        iterate 1
          first
            | (refine mv_take ?_ (Or.inl ⟨by rfl, ?_⟩) (rfl) ?_
               rotate_left 1
               · intro u hu
                 (try dsimp only at hu)
                 go_simp
                 try with_reducible rfl
               simp only [Act.put, List.setIfInBounds_toArray, List.set_cons_zero, List.set_cons_succ])
            | (refine mv_take _ (Or.inr ⟨by rfl, rfl⟩) (rfl) ?_
               simp only [Act.put, List.setIfInBounds_toArray, List.set_cons_zero, List.set_cons_succ])
        iterate 1
          first
            | (refine mv_free ?_ (Or.inl ⟨by rfl, ?_⟩) (rfl) ?_
               rotate_left 1
               · intro u
                 go_simp
                 try with_reducible rfl
               simp only [Act.put, List.setIfInBounds_toArray, List.set_cons_zero, List.set_cons_succ])
            | (refine mv_free _ (Or.inr ⟨by rfl, rfl⟩) (rfl) ?_
               simp only [Act.put, List.setIfInBounds_toArray, List.set_cons_zero, List.set_cons_succ])
        refine mv_done ?_
        go_wp2
        go_ret
        exact ⟨ret_bool hf.out.symm, hb.drew⟩
      · have d1 : decide (p ≤ q) = false := decide_eq_false hpq
        have st := Lib.hid (HS.out (by omega))
        go_wp2_with fail
        refine region_still [] [(.free, 0), (.free, 1), (.free, 2), (.take, 3), (.free, 4), (.free, 5), (.free, 6), (.free, 7), (.take, 8), (.free, 9)] _ (by kernel_rfl) (by kernel_rfl) (by kernel_rfl) (by kernel_rfl) (by decide) rfl (fun _ _ _ _ _ h => h) ?_
        simp only [List.filterMap_cons, List.filterMap_nil, List.getElem?_toArray, List.getElem?_cons_zero, List.getElem?_cons_succ, Option.map_some]
        iterate 3
          first
            | (refine mv_free ?_ (Or.inl ⟨by rfl, ?_⟩) (rfl) ?_
               rotate_left 1
               · intro u
                 go_simp
                 try with_reducible rfl
               simp only [Act.put, List.setIfInBounds_toArray, List.set_cons_zero, List.set_cons_succ])
            | (refine mv_free _ (Or.inr ⟨by rfl, rfl⟩) (rfl) ?_
               simp only [Act.put, List.setIfInBounds_toArray, List.set_cons_zero, List.set_cons_succ])
        iterate 1
          first
            | (refine mv_take ?_ (Or.inl ⟨by rfl, ?_⟩) (rfl) ?_
               rotate_left 1
               · intro u hu
                 (try dsimp only at hu)
                 go_simp
                 try with_reducible rfl
               simp only [Act.put, List.setIfInBounds_toArray, List.set_cons_zero, List.set_cons_succ])
            | (refine mv_take _ (Or.inr ⟨by rfl, rfl⟩) (rfl) ?_
               simp only [Act.put, List.setIfInBounds_toArray, List.set_cons_zero, List.set_cons_succ])
        iterate 4
          first
            | (refine mv_free ?_ (Or.inl ⟨by rfl, ?_⟩) (rfl) ?_
               rotate_left 1
               · intro u
                 go_simp
                 try with_reducible rfl
               simp only [Act.put, List.setIfInBounds_toArray, List.set_cons_zero, List.set_cons_succ])
            | (refine mv_free _ (Or.inr ⟨by rfl, rfl⟩) (rfl) ?_
               simp only [Act.put, List.setIfInBounds_toArray, List.set_cons_zero, List.set_cons_succ])
        iterate 1
          first
            | (refine mv_take ?_ (Or.inl ⟨by rfl, ?_⟩) (rfl) ?_
               rotate_left 1
               · intro u hu
                 (try dsimp only at hu)
                 go_simp
                 try with_reducible rfl
               simp only [Act.put, List.setIfInBounds_toArray, List.set_cons_zero, List.set_cons_succ])
            | (refine mv_take _ (Or.inr ⟨by rfl, rfl⟩) (rfl) ?_
               simp only [Act.put, List.setIfInBounds_toArray, List.set_cons_zero, List.set_cons_succ])
        iterate 1
          first
            | (refine mv_free ?_ (Or.inl ⟨by rfl, ?_⟩) (rfl) ?_
               rotate_left 1
               · intro u
                 go_simp
                 try with_reducible rfl
               simp only [Act.put, List.setIfInBounds_toArray, List.set_cons_zero, List.set_cons_succ])
            | (refine mv_free _ (Or.inr ⟨by rfl, rfl⟩) (rfl) ?_
               simp only [Act.put, List.setIfInBounds_toArray, List.set_cons_zero, List.set_cons_succ])
        refine mv_done ?_
        go_wp2
        go_roundw
        case rel => exact ⟨j + 1, .inl (by omega), by go_num, hb.drew, st⟩
        case measure => simp [intOf]; omega
    · have hge : (l.length : Int) ≤ (j : Int) + 1 := by omega
      have hf := Lib.hid (show risB l = true from decide_eq_true (fun i a b => hU.out i (by omega) b))
      go_wp2
      go_ret
      exact ⟨ret_bool hf.out.symm, hb⟩

set_option maxRecDepth 100000 in
set_option maxHeartbeats 4000000 in
theorem cinside_any (a : Option Addr) (cap : Nat) (l : List Int) (w : World) (hr : RowIs .i64 w a l) (hL : l.length ≤ 300) :
    Calls Tryz.prog 103 #[.slice a l.length cap] w fun e w' => e = .returned (.bool (insB l)) ∧ Below w.heap.size w w' := by
  have HR := Lib.hid hr
  clear hr
  go_enter Tryz.func103, Tryz.ntmps103
  go_wp2
  go_loopw [7] (fun i v => ∃ j : Nat, j ≤ l.length ∧ i = .int .i64 j ∧ Below w.heap.size w v ∧ Hid (∀ i, i < j → -549755813887 ≤ l.getD i 0 ∧ l.getD i 0 ≤ 549755813887)) (fun i _ => l.length - (intOf i).toNat)
  case atStart => exact ⟨0, by omega, rfl, Below.refl _ _, Lib.hid (fun i a => by omega)⟩
  case round =>
    obtain ⟨j, hj, rfl, hb, hU⟩ := hrel
    by_cases hlt : j < l.length
    · obtain ⟨b, off, ea, hblk, h1⟩ := (HR.out.below hb).at hlt
      have hlt2 : (j : Int) < (l.length : Int) := by omega
      have HS := Lib.hid (fun (h : -549755813887 ≤ l.getD j 0 ∧ l.getD j 0 ≤ 549755813887) i (a : i < j + 1) => show -549755813887 ≤ l.getD i 0 ∧ l.getD i 0 ≤ 549755813887 from by
        by_cases e : i = j
        · subst e; exact h
        · exact hU.out i (by omega))
      have HF := Lib.hid (fun (h : ¬ (-549755813887 ≤ l.getD j 0 ∧ l.getD j 0 ≤ 549755813887)) => show insB l = false from decide_eq_false (fun hh => h (hh j hlt)))
      generalize l.getD j 0 = p at *
      subst ea
      by_cases hp : -549755813887 ≤ p ∧ p ≤ 549755813887
      · have st := Lib.hid (HS.out hp)
        obtain ⟨p1, p2⟩ := hp
        go_wp2
        go_roundw
        case rel => exact ⟨j + 1, by omega, by go_num, hb, st⟩
        case measure => simp [intOf]; omega
      · have hf := Lib.hid (HF.out hp)
        have hc : p < -549755813887 ∨ (-549755813887 ≤ p ∧ 549755813887 < p) := by omega
        clear hp
        rcases hc with p1 | ⟨p1, p2⟩
        all_goals
          go_wp2
          go_ret
          exact ⟨ret_bool hf.out.symm, hb⟩
    · have hge : (l.length : Int) ≤ (j : Int) := by omega
      have hf := Lib.hid (show insB l = true from decide_eq_true (fun i a => hU.out i (by omega)))
      go_wp2
      go_ret
      exact ⟨ret_bool hf.out.symm, hb⟩
end Go.Proofs.YtecpmffmmiogfaaGreat
