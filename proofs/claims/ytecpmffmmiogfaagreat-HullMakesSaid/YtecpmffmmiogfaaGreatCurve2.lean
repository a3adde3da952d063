/- Package curve: Right, and what a right curve tells; walked. -/
import Derived.Test.YtecpmffmmiogfaaGreatCurve1
namespace Go.Proofs.YtecpmffmmiogfaaGreat
open Go.ChangeShapes Go.WideShapes Go.ChangeAt Go.RowKit
set_option linter.unusedVariables false
set_option linter.unusedSimpArgs false

theorem crv_box (w : World) (ax ay : Option Addr) (cx cy : Nat) (X Y : List Int) : ∃ V, V = w.alloc (.cells #[.slice ax X.length cx, .slice ay Y.length cy] 75) ∧ Below w.heap.size w V ∧ V.heap.size = w.heap.size + 1 ∧ ∀ u, Below (w.heap.size + 1) V u → u.cell? ⟨w.heap.size, 0, none⟩ = some (.slice ax X.length cx) ∧ u.cell? ⟨w.heap.size, 1, none⟩ = some (.slice ay Y.length cy) :=
  ⟨_, rfl, (by repeat (first | exact Below.refl _ _ | assumption | apply Below.drew | apply below_drewN | (refine Below.alloc ?_ (by first | exact Nat.le_refl _ | omega | (simp <;> omega)) _) | (refine Below.setCell ?_ (by first | exact Nat.le_refl _ | omega | (simp <;> omega)) _))), by simp, fun u hu => ⟨(bc hu (by omega)).trans (by go_simp), (bc hu (by omega)).trans (by go_simp)⟩⟩

set_option maxRecDepth 100000 in
set_option maxHeartbeats 8000000 in
theorem cright_any (ax ay : Option Addr) (cx cy : Nat) (X Y : List Int) (w : World) (hx : RowIs .i64 w ax X) (hy : RowIs .i64 w ay Y) (hX : X.length ≤ 300) (hY : Y.length ≤ 300) :
    Calls Tryz.prog 77 #[.agg #[.slice ax X.length cx, .slice ay Y.length cy]] w fun e w' => e = .returned (.bool (rgtB X Y)) ∧ Below w.heap.size w w' := by
  have HX := Lib.hid hx
  have HY := Lib.hid hy
  have R1 := fun u (h : Below w.heap.size w u) => crising_any ax cx X u (hx.below h) hX
  have I1 := fun u (h : Below w.heap.size w u) => cinside_any ax cx X u (hx.below h) hX
  have I2 := fun u (h : Below w.heap.size w u) => cinside_any ay cy Y u (hy.below h) hY
  have HG := Lib.hid (show rgtB X Y = (decide (2 ≤ X.length) && decide (X.length ≤ 64) && decide (Y.length = X.length) && risB X && insB X && insB Y) from rfl)
  generalize rgtB X Y = g at *
  generalize risB X = r1 at *
  generalize insB X = i1 at *
  generalize insB Y = i2 at *
  clear hx hy
  obtain ⟨V, eV, hb0, hz, hcs⟩ := crv_box w ax ay cx cy X Y
  replace hb0 := Lib.hid hb0
  replace hz := Lib.hid hz
  replace hcs := Lib.hid hcs
  replace eV := Lib.hid eV
  have key : (¬ 2 ≤ X.length ∧ g = false) ∨ (2 ≤ X.length ∧ 64 < X.length ∧ g = false) ∨ (2 ≤ X.length ∧ X.length ≤ 64 ∧ ¬ Y.length = X.length ∧ g = false) ∨ (2 ≤ X.length ∧ X.length ≤ 64 ∧ Y.length = X.length ∧ g = (r1 && i1 && i2)) := by
    rw [HG.out]
    by_cases a : 2 ≤ X.length
    · by_cases b : X.length ≤ 64
      · by_cases c : Y.length = X.length
        · exact .inr (.inr (.inr ⟨a, b, c, by rw [decide_eq_true a, decide_eq_true b, decide_eq_true c]; rfl⟩))
        · exact .inr (.inr (.inl ⟨a, b, c, by rw [decide_eq_true a, decide_eq_true b, decide_eq_false c]; rfl⟩))
      · exact .inr (.inl ⟨a, by omega, by rw [decide_eq_true a, decide_eq_false b]; rfl⟩)
    · exact .inl ⟨a, by rw [decide_eq_false a]; rfl⟩
  clear HG
  rcases key with ⟨a, rfl⟩ | ⟨a, b, rfl⟩ | ⟨a, b, c, rfl⟩ | ⟨a, b, c, rfl⟩
  · have a' : (X.length : Int) < 2 := by omega
    clear a R1 I1 I2
    go_enter Tryz.func77, Tryz.ntmps77
    go_wp2_with fail
    rw [← eV.out]
    obtain ⟨k0, k1⟩ := hcs.out _ (Below.refl _ _)
    go_wp2
    go_ret
    exact ⟨rfl, hb0.out⟩
  · have a' : (2 : Int) ≤ (X.length : Int) := by omega
    have b' : (64 : Int) < (X.length : Int) := by omega
    clear a b R1 I1 I2
    go_enter Tryz.func77, Tryz.ntmps77
    go_wp2_with fail
    rw [← eV.out]
    obtain ⟨k0, k1⟩ := hcs.out _ (Below.refl _ _)
    go_wp2
    go_ret
    exact ⟨rfl, hb0.out⟩
  · have a' : (2 : Int) ≤ (X.length : Int) := by omega
    have b' : (X.length : Int) ≤ 64 := by omega
    have c' : ((Y.length : Int) == (X.length : Int)) = false := by simp; omega
    clear a b c R1 I1 I2
    go_enter Tryz.func77, Tryz.ntmps77
    go_wp2_with fail
    rw [← eV.out]
    obtain ⟨k0, k1⟩ := hcs.out _ (Below.refl _ _)
    go_wp2
    go_ret
    exact ⟨rfl, hb0.out⟩
  · have a' : (2 : Int) ≤ (X.length : Int) := by omega
    have b' : (X.length : Int) ≤ 64 := by omega
    have c' : ((Y.length : Int) == (X.length : Int)) = true := by simp; omega
    clear a b c
    replace R1 := Lib.hid R1
    replace I1 := Lib.hid I1
    replace I2 := Lib.hid I2
    have hV := hb0.out
    replace hV := Lib.hid hV
    cases r1
    · go_enter Tryz.func77, Tryz.ntmps77
      go_wp2_with fail
      rw [← eV.out]
      obtain ⟨k0, k1⟩ := hcs.out _ (Below.refl _ _)
      go_wp2_with fail
      refine (R1.out _ hV.out).mono ?_
      rintro e w1 ⟨rfl, hb1⟩
      go_wp2
      go_ret
      exact ⟨rfl, hV.out.trans (hb1.mono (by have := hz.out; omega))⟩
    · cases i1
      · go_enter Tryz.func77, Tryz.ntmps77
        go_wp2_with fail
        rw [← eV.out]
        obtain ⟨k0, k1⟩ := hcs.out _ (Below.refl _ _)
        go_wp2_with fail
        refine (R1.out _ hV.out).mono ?_
        rintro e w1 ⟨rfl, hb1⟩
        have hb1 := (Below.refl (w.heap.size + 1) V).trans (hb1.mono (Nat.le_of_eq hz.out.symm))
        obtain ⟨k0, k1⟩ := hcs.out _ hb1
        have hW := Lib.hid (hV.out.trans (hb1.mono (by omega)))
        go_wp2_with fail
        refine (I1.out _ hW.out).mono ?_
        rintro e w2 ⟨rfl, hb2⟩
        go_wp2
        go_ret
        exact ⟨rfl, hW.out.trans (hb2.mono hW.out.size)⟩
      · have e3 : (true && true && i2) = i2 := by simp
        rw [e3]
        go_enter Tryz.func77, Tryz.ntmps77
        go_wp2_with fail
        rw [← eV.out]
        obtain ⟨k0, k1⟩ := hcs.out _ (Below.refl _ _)
        go_wp2_with fail
        refine (R1.out _ hV.out).mono ?_
        rintro e w1 ⟨rfl, hb1⟩
        have hb1 := (Below.refl (w.heap.size + 1) V).trans (hb1.mono (Nat.le_of_eq hz.out.symm))
        obtain ⟨k0, k1⟩ := hcs.out _ hb1
        have hW := Lib.hid (hV.out.trans (hb1.mono (by omega)))
        go_wp2_with fail
        refine (I1.out _ hW.out).mono ?_
        rintro e w2 ⟨rfl, hb2⟩
        have hb2 := hb1.trans (hb2.mono (by have := hb1.size; have := hz.out; omega))
        obtain ⟨k0, k1⟩ := hcs.out _ hb2
        have hW2 := Lib.hid (hV.out.trans (hb2.mono (by omega)))
        clear hb1
        go_wp2_with fail
        refine (I2.out _ hW2.out).mono ?_
        rintro e w3 ⟨rfl, hb3⟩
        go_wp2
        go_ret
        exact ⟨rfl, hW2.out.trans (hb3.mono hW2.out.size)⟩

/-- Does a place lie below a curve's point? -/
def crP (X : List Int) (x : Int) (i : Nat) : Bool := decide (x < X.getD i 0)
/-- What is told of x, where k is the first point above it. -/
def crV (X Y : List Int) (x : Int) (k : Nat) : Int :=
  if k = 0 then Y.getD 0 0 else if k = X.length then Y.getD (X.length - 1) 0
  else Y.getD (k - 1) 0 + flV (Y.getD k 0 - Y.getD (k - 1) 0) (x - X.getD (k - 1) 0) (X.getD k 0 - X.getD (k - 1) 0)
theorem flV_bd (a b c : Int) : -1099511627775 ≤ flV a b c ∧ flV a b c ≤ 1099511627775 := by
  unfold flV flB wIn
  split
  · rename_i h
    simp at h
    exact h.2
  · omega

set_option maxRecDepth 100000 in
set_option maxHeartbeats 4000000 in
theorem cval1_any (b : Nat) (ax : Option Addr) (cx : Nat) (X : List Int) (x : Int) (i : Nat) (hi : i < X.length) (hL : X.length ≤ 300) (w : World) (hr : RowIs .i64 w ax X) (h0 : w.cell? ⟨b, 0, none⟩ = some (.slice ax X.length cx)) (h1 : w.cell? ⟨b + 1, 0, none⟩ = some (.int .i64 x)) :
    Calls Tryz.prog 132 (#[.int .i64 (i : Nat)] ++ #[.pointer (some ⟨b, 0, none⟩), .pointer (some ⟨b + 1, 0, none⟩)]) w fun e w' => e = .returned (.bool (crP X x i)) ∧ Below w.heap.size w w' := by
  obtain ⟨c, off, ea, hblk, h2⟩ := hr.at hi
  subst ea
  have HP := Lib.hid (show crP X x i = decide (x < X.getD i 0) from rfl)
  generalize X.getD i 0 = p at *
  generalize crP X x i = q at *
  have hi1 : (i : Int) < (X.length : Int) := by omega
  have hr := Lib.hid hr
  clear hi
  go_enter Tryz.func132, Tryz.ntmps132
  go_wp2_with fail
  refine region_still [] [(.free, 0), (.take, 1), (.free, 2), (.free, 3), (.take, 4), (.take, 5), (.free, 6), (.free, 7)] _ (by kernel_rfl) (by kernel_rfl) (by kernel_rfl) (by kernel_rfl) (by decide) rfl (fun _ _ _ _ _ h => h) ?_
  simp only [List.filterMap_cons, List.filterMap_nil, List.getElem?_toArray, List.getElem?_cons_zero, List.getElem?_cons_succ, Option.map_some]
  iterate 1
    first
      | (refine mv_free ?_ (Or.inl ⟨by rfl, ?_⟩) (rfl) ?_
         rotate_left 1
         · intro u
           go_simp
           try with_reducible rfl
         simp only [Act.put, List.setIfInBounds_toArray, List.set_cons_zero, List.set_cons_succ])
      | (refine mv_free _ (Or.inr ⟨by rfl, rfl⟩) (rfl) ?_
         simp only [Act.put, List.setIfInBounds_toArray, List.set_cons_zero, List.set_cons_succ])
  iterate 1
    first
      | (refine mv_take ?_ (Or.inl ⟨by rfl, ?_⟩) (rfl) ?_
         rotate_left 1
         · intro u hu
           (try dsimp only at hu)
           go_simp
           try with_reducible rfl
         simp only [Act.put, List.setIfInBounds_toArray, List.set_cons_zero, List.set_cons_succ])
      | (refine mv_take _ (Or.inr ⟨by rfl, rfl⟩) (rfl) ?_
         simp only [Act.put, List.setIfInBounds_toArray, List.set_cons_zero, List.set_cons_succ])
  iterate 2
    first
      | (refine mv_free ?_ (Or.inl ⟨by rfl, ?_⟩) (rfl) ?_
         rotate_left 1
         · intro u
           go_simp
           try with_reducible rfl
         simp only [Act.put, List.setIfInBounds_toArray, List.set_cons_zero, List.set_cons_succ])
      | (refine mv_free _ (Or.inr ⟨by rfl, rfl⟩) (rfl) ?_
         simp only [Act.put, List.setIfInBounds_toArray, List.set_cons_zero, List.set_cons_succ])
  iterate 2
    first
      | (refine mv_take ?_ (Or.inl ⟨by rfl, ?_⟩) (rfl) ?_
         rotate_left 1
         · intro u hu
           (try dsimp only at hu)
           go_simp
           try with_reducible rfl
         simp only [Act.put, List.setIfInBounds_toArray, List.set_cons_zero, List.set_cons_succ])
      | (refine mv_take _ (Or.inr ⟨by rfl, rfl⟩) (rfl) ?_
         simp only [Act.put, List.setIfInBounds_toArray, List.set_cons_zero, List.set_cons_succ])
  iterate 2
    first
      | (refine mv_free ?_ (Or.inl ⟨by rfl, ?_⟩) (rfl) ?_
         rotate_left 1
         · intro u
           go_simp
           try with_reducible rfl
         simp only [Act.put, List.setIfInBounds_toArray, List.set_cons_zero, List.set_cons_succ])
      | (refine mv_free _ (Or.inr ⟨by rfl, rfl⟩) (rfl) ?_
         simp only [Act.put, List.setIfInBounds_toArray, List.set_cons_zero, List.set_cons_succ])
  refine mv_done ?_
  go_wp2
  go_ret
  exact ⟨ret_bool HP.out.symm, (by repeat (first | exact Below.refl _ _ | assumption | apply Below.drew | apply below_drewN | (refine Below.alloc ?_ (by first | exact Nat.le_refl _ | omega | (simp <;> omega)) _) | (refine Below.setCell ?_ (by first | exact Nat.le_refl _ | omega | (simp <;> omega)) _)))⟩
end Go.Proofs.YtecpmffmmiogfaaGreat
