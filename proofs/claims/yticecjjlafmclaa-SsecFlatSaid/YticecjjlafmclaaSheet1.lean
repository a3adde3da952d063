/- How great a sheet is; which sheets may be, and the document's; walked. -/
import Derived.Test.YticecjjlafmclaaCurve8a
import Derived.Test.YticecjjlafmclaaCurveF
import Derived.Test.YticecjjlafmclaaMixg
import Derived.Deep.Cut
namespace Go.Proofs.Yticecjjlafmclaa
open Go.ChangeShapes Go.WideShapes Go.ChangeAt Go.RowKit
set_option linter.unusedVariables false
set_option linter.unusedSimpArgs false
theorem she_box (w : World) (a1 a2 a3 : Option Addr) (e1 e2 e3 : Nat) (X Y : List Int) (Z : List (List Int)) : ∃ V, V = (w.alloc (.cells #[.slice a1 X.length e1, .slice a2 Y.length e2, .slice a3 Z.length e3] 26)) ∧ Below w.heap.size w V ∧ V.heap.size = w.heap.size + 1 ∧ ∀ u, Below (w.heap.size + 1) V u → u.cell? ⟨w.heap.size, 0, none⟩ = some (.slice a1 X.length e1) ∧ u.cell? ⟨w.heap.size, 1, none⟩ = some (.slice a2 Y.length e2) ∧ u.cell? ⟨w.heap.size, 2, none⟩ = some (.slice a3 Z.length e3) :=
  ⟨_, rfl, (by repeat (first | exact Below.refl _ _ | assumption | apply Below.drew | apply below_drewN | (refine Below.alloc ?_ (by first | exact Nat.le_refl _ | omega | (simp <;> omega)) _) | (refine Below.setCell ?_ (by first | exact Nat.le_refl _ | omega | (simp <;> omega)) _))), by simp, fun u hu => ⟨(bc hu (by omega)).trans (by go_simp), (bc hu (by omega)).trans (by go_simp), (bc hu (by omega)).trans (by go_simp)⟩⟩

/-- How great a sheet is: told, or within the bounds. -/
def GreatP (X Y : List Int) (Z : List (List Int)) (w : World) (e : Ending) (w' : World) : Prop := ∃ g : Bool, e = .returned (.bool g) ∧ (g = false → X.length ≤ 50 ∧ Y.length ≤ 50 ∧ Z.length ≤ 50 ∧ ∀ i, i < Z.length → (Z.getD i []).length ≤ 50) ∧ Below w.heap.size w w'

def sdB (l : List Int) : Bool := decide (l.length ≤ 16) && rgtB l l
set_option maxRecDepth 100000 in
set_option maxHeartbeats 8000000 in
theorem sside (a : Option Addr) (cap : Nat) (l : List Int) (w : World) (hr : RowIs .i64 w a l) (hL : l.length ≤ 300) : Calls Try.prog 45 #[.slice a l.length cap] w fun e w' => e = .returned (.bool (sdB l)) ∧ Below w.heap.size w w' := by
  have CR := fun u (h : Below w.heap.size w u) => cright_any a a cap cap l l u (hr.below h) (hr.below h) hL hL
  unfold sdB
  rcases (show l.length ≤ 16 ∨ 16 < l.length by omega) with h | h
  · have d : (l.length : Int) ≤ 16 := by omega
    rw [decide_eq_true h, Bool.true_and]
    generalize rgtB l l = r at *
    replace CR := Lib.hid CR
    clear hr hL
    go_enter Try.func45, Try.ntmps45
    go_wp2_with fail
    refine (CR.out _ (Below.refl _ _)).mono ?_
    rintro e w1 ⟨rfl, hb1⟩
    go_wp2
    go_ret
    exact ⟨rfl, hb1⟩
  · have d : (16 : Int) < (l.length : Int) := by omega
    rw [decide_eq_false (show ¬ l.length ≤ 16 by omega), Bool.false_and]
    clear hr hL CR
    go_enter Try.func45, Try.ntmps45
    go_wp2
    go_ret
    exact ⟨rfl, Below.refl _ _⟩
/-- Is every row of Z as long as Y, within the bounds? -/
def rwB (X Y : List Int) (Z : List (List Int)) : Bool := decide (Z.length = X.length) && decide (∀ i, i < Z.length → rgtB Y (Z.getD i []) = true)
def shB (X Y : List Int) (Z : List (List Int)) : Bool := sdB X && (sdB Y && rwB X Y Z)
theorem shB_at {X Y : List Int} {Z : List (List Int)} (h : shB X Y Z = true) : rgtB X X = true ∧ rgtB Y Y = true ∧ X.length ≤ 16 ∧ Y.length ≤ 16 ∧ Z.length = X.length ∧ ∀ i, i < Z.length → rgtB Y (Z.getD i []) = true := by
  unfold shB sdB rwB at h
  simp only [Bool.and_eq_true, decide_eq_true_eq] at h
  exact ⟨h.1.2, h.2.1.2, h.1.1, h.2.1.1, h.2.2.1, h.2.2.2⟩
set_option maxRecDepth 100000 in
set_option maxHeartbeats 8000000 in
theorem srows (a1 a2 a3 : Option Addr) (GA : Nat → Option Addr) (GC : Nat → Nat) (e1 e2 e3 : Nat) (X Y : List Int) (Z : List (List Int)) (w : World) (hx : RowIs .i64 w a1 X) (hy : RowIs .i64 w a2 Y) (hg : GridIs .i64 w a3 GA GC Z) (hX : X.length ≤ 50) (hY : Y.length ≤ 50) (hZ : Z.length ≤ 50) (hR : ∀ i, i < Z.length → (Z.getD i []).length ≤ 50) : Calls Try.prog 46 #[.agg #[.slice a1 X.length e1, .slice a2 Y.length e2, .slice a3 Z.length e3]] w fun e w' => e = .returned (.bool (rwB X Y Z)) ∧ Below w.heap.size w w' := by
  obtain ⟨V, eV, hb0, hz, hcs⟩ := she_box w a1 a2 a3 e1 e2 e3 X Y Z
  have GG := Lib.hid (fun u (h : Below (w.heap.size + 1) V u) i (hi : i < Z.length) => (hg.below (hb0.trans (h.mono (by omega)))).at hi)
  have CR := Lib.hid (fun u (h : Below (w.heap.size + 1) V u) i (hi : i < Z.length) => cright_any a2 (GA i) e2 (GC i) Y (Z.getD i []) u (hy.below (hb0.trans (h.mono (by omega)))) ((hg.rows i hi).below (hb0.trans (h.mono (by omega)))) (by omega) (by have := hR i hi; omega))
  unfold rwB
  clear hx hy hg hR hX hY
  replace hb0 := Lib.hid hb0
  replace hz := Lib.hid hz
  replace hcs := Lib.hid hcs
  replace eV := Lib.hid eV
  rcases (show Z.length = X.length ∨ ¬ Z.length = X.length by omega) with he | he
  · rw [decide_eq_true he, Bool.true_and]
    obtain ⟨R, hR'⟩ : ∃ R, R = decide (∀ i, i < Z.length → rgtB Y (Z.getD i []) = true) := ⟨_, rfl⟩
    rw [← hR']
    replace hR' := Lib.hid hR'
    have d : ((Z.length : Int) != (X.length : Int)) = false := by simp; omega
    have e9 : (X.length : Int) = (Z.length : Int) := by omega
    replace e9 := Lib.hid e9
    clear he
    go_enter Try.func46, Try.ntmps46
    go_wp2_with fail
    rw [← eV.out]
    obtain ⟨k0, k1, k2⟩ := hcs.out _ (Below.refl _ _)
    go_wp2_with fail
    go_loopw [15] (fun i v => ∃ j : Nat, j ≤ Z.length ∧ i = .int .i64 (j : Int) ∧ Below (w.heap.size + 1) V v ∧ Hid (∀ t, t < j → rgtB Y (Z.getD t []) = true)) (fun i _ => Z.length - (intOf i).toNat)
    case atStart => exact ⟨0, by omega, rfl, Below.refl _ _, Lib.hid (fun t h => by omega)⟩
    case round =>
      clear k0 k1 k2
      obtain ⟨j, hj, rfl, hb, hU⟩ := hrel
      obtain ⟨k0, k1, k2⟩ := hcs.out _ hb
      by_cases hlt : j < Z.length
      · obtain ⟨bz, oz, ea, -, c1⟩ := GG.out _ hb j hlt
        subst ea
        have l1 : (j : Int) < (Z.length : Int) := by omega
        have l0 : 0 ≤ (j : Int) := by omega
        have C9 := CR.out _ hb j hlt
        have HT := Lib.hid (fun (h : rgtB Y (Z.getD j []) = true) t (ht : t < j + 1) => show rgtB Y (Z.getD t []) = true from by
          by_cases e : t = j
          · subst e; exact h
          · exact hU.out t (by omega))
        have HF := Lib.hid (fun (h : rgtB Y (Z.getD j []) = false) => show R = false from by rw [hR'.out]; exact decide_eq_false (fun hh => by have := hh j hlt; rw [h] at this; cases this))
        cases hr : rgtB Y (Z.getD j [])
        · rw [hr] at C9
          replace HF := Lib.hid (HF.out hr)
          generalize (Z.getD j []).length = n at *
          replace C9 := Lib.hid C9
          clear HT hU hr
          go_wp2_with fail
          refine C9.out.mono ?_
          rintro e w1 ⟨rfl, hb1⟩
          go_wp2
          go_ret
          exact ⟨ret_bool HF.out.symm, hb0.out.trans ((hb.trans (hb1.mono (by have := hb.size; have := hz.out; omega))).mono (by omega))⟩
        · rw [hr] at C9
          replace HT := Lib.hid (HT.out hr)
          generalize (Z.getD j []).length = n at *
          replace C9 := Lib.hid C9
          clear HF hU hr
          go_wp2_with fail
          refine C9.out.mono ?_
          rintro e w1 ⟨rfl, hb1⟩
          have hb1 := hb.trans (hb1.mono (by have := hb.size; have := hz.out; omega))
          go_wp2
          go_roundw
          case rel => exact ⟨j + 1, by omega, by go_num, hb1, HT⟩
          case measure => simp [intOf]; omega
      · have hge : (Z.length : Int) ≤ (j : Int) := by omega
        have hf := Lib.hid (show R = true from by rw [hR'.out]; exact decide_eq_true (fun i hi => hU.out i (by omega)))
        go_wp2
        go_ret
        exact ⟨by first | exact ret_bool hf.out.symm | rfl, hb0.out.trans (hb.mono (by omega))⟩
  · rw [decide_eq_false he, Bool.false_and]
    have d : ((Z.length : Int) != (X.length : Int)) = true := by simp; omega
    clear he
    go_enter Try.func46, Try.ntmps46
    go_wp2_with fail
    rw [← eV.out]
    obtain ⟨k0, k1, k2⟩ := hcs.out _ (Below.refl _ _)
    go_wp2
    go_ret
    exact ⟨rfl, hb0.out⟩
set_option maxRecDepth 100000 in
set_option maxHeartbeats 8000000 in
theorem sright (a1 a2 a3 : Option Addr) (GA : Nat → Option Addr) (GC : Nat → Nat) (e1 e2 e3 : Nat) (X Y : List Int) (Z : List (List Int)) (w : World) (hx : RowIs .i64 w a1 X) (hy : RowIs .i64 w a2 Y) (hg : GridIs .i64 w a3 GA GC Z) (hX : X.length ≤ 50) (hY : Y.length ≤ 50) (hZ : Z.length ≤ 50) (hR : ∀ i, i < Z.length → (Z.getD i []).length ≤ 50) : Calls Try.prog 30 #[.agg #[.slice a1 X.length e1, .slice a2 Y.length e2, .slice a3 Z.length e3]] w fun e w' => e = .returned (.bool (shB X Y Z)) ∧ Below w.heap.size w w' := by
  obtain ⟨V, eV, hb0, hz, hcs⟩ := she_box w a1 a2 a3 e1 e2 e3 X Y Z
  have SX := fun u (h : Below (w.heap.size + 1) V u) => sside a1 e1 X u (hx.below (hb0.trans (h.mono (by omega)))) (by omega)
  have SY := fun u (h : Below (w.heap.size + 1) V u) => sside a2 e2 Y u (hy.below (hb0.trans (h.mono (by omega)))) (by omega)
  have RW := fun u (h : Below (w.heap.size + 1) V u) => srows a1 a2 a3 GA GC e1 e2 e3 X Y Z u (hx.below (hb0.trans (h.mono (by omega)))) (hy.below (hb0.trans (h.mono (by omega)))) (hg.below (hb0.trans (h.mono (by omega)))) hX hY hZ hR
  unfold shB
  clear hx hy hg hX hY hZ hR
  generalize sdB X = p at *
  generalize sdB Y = q at *
  generalize rwB X Y Z = r at *
  replace SX := Lib.hid SX
  replace SY := Lib.hid SY
  replace RW := Lib.hid RW
  replace hb0 := Lib.hid hb0
  replace hz := Lib.hid hz
  replace hcs := Lib.hid hcs
  replace eV := Lib.hid eV
  cases p
  · rw [Bool.false_and]
    go_enter Try.func30, Try.ntmps30
    go_wp2_with fail
    rw [← eV.out]
    obtain ⟨k0, k1, k2⟩ := hcs.out _ (Below.refl _ _)
    go_wp2_with fail
    refine (SX.out _ (Below.refl _ _)).mono ?_
    rintro e w1 ⟨rfl, hb1⟩
    have hb1 := (Below.refl (w.heap.size + 1) V).trans (hb1.mono (Nat.le_of_eq hz.out.symm))
    obtain ⟨k0, k1, k2⟩ := hcs.out _ hb1
    go_wp2
    go_ret
    exact ⟨rfl, hb0.out.trans (hb1.mono (by omega))⟩
  · rw [Bool.true_and]
    cases q
    · rw [Bool.false_and]
      go_enter Try.func30, Try.ntmps30
      go_wp2_with fail
      rw [← eV.out]
      obtain ⟨k0, k1, k2⟩ := hcs.out _ (Below.refl _ _)
      go_wp2_with fail
      refine (SX.out _ (Below.refl _ _)).mono ?_
      rintro e w1 ⟨rfl, hb1⟩
      have hb1 := (Below.refl (w.heap.size + 1) V).trans (hb1.mono (Nat.le_of_eq hz.out.symm))
      obtain ⟨k0, k1, k2⟩ := hcs.out _ hb1
      go_wp2_with fail
      refine (SY.out _ hb1).mono ?_
      rintro e w2 ⟨rfl, hb2⟩
      have hb2 := hb1.trans (hb2.mono (by have := hb1.size; have := hz.out; omega))
      clear hb1
      obtain ⟨k0, k1, k2⟩ := hcs.out _ hb2
      go_wp2
      go_ret
      exact ⟨rfl, hb0.out.trans (hb2.mono (by omega))⟩
    · rw [Bool.true_and]
      go_enter Try.func30, Try.ntmps30
      go_wp2_with fail
      rw [← eV.out]
      obtain ⟨k0, k1, k2⟩ := hcs.out _ (Below.refl _ _)
      go_wp2_with fail
      refine (SX.out _ (Below.refl _ _)).mono ?_
      rintro e w1 ⟨rfl, hb1⟩
      have hb1 := (Below.refl (w.heap.size + 1) V).trans (hb1.mono (Nat.le_of_eq hz.out.symm))
      obtain ⟨k0, k1, k2⟩ := hcs.out _ hb1
      go_wp2_with fail
      refine (SY.out _ hb1).mono ?_
      rintro e w2 ⟨rfl, hb2⟩
      have hb2 := hb1.trans (hb2.mono (by have := hb1.size; have := hz.out; omega))
      clear hb1
      obtain ⟨k0, k1, k2⟩ := hcs.out _ hb2
      go_wp2_with fail
      refine (RW.out _ hb2).mono ?_
      rintro e w3 ⟨rfl, hb3⟩
      have hb3 := hb2.trans (hb3.mono (by have := hb2.size; have := hz.out; omega))
      clear hb2
      obtain ⟨k0, k1, k2⟩ := hcs.out _ hb3
      go_wp2
      go_ret
      exact ⟨rfl, hb0.out.trans (hb3.mono (by omega))⟩
set_option maxRecDepth 100000 in
set_option maxHeartbeats 8000000 in
theorem rright06 (a1 a2 a3 : Option Addr) (GA : Nat → Option Addr) (GC : Nat → Nat) (e1 e2 e3 : Nat) (X Y : List Int) (Z : List (List Int)) (w : World) (hx : RowIs .i64 w a1 X) (hy : RowIs .i64 w a2 Y) (hg : GridIs .i64 w a3 GA GC Z) (hX : X.length ≤ 50) (hY : Y.length ≤ 50) (hZ : Z.length ≤ 50) (hR : ∀ i, i < Z.length → (Z.getD i []).length ≤ 50) : Calls Try.prog 32 #[.agg #[.slice a1 X.length e1, .slice a2 Y.length e2, .slice a3 Z.length e3]] w fun e w' => e = .returned (.bool (shB X Y Z)) ∧ Below w.heap.size w w' := by
  obtain ⟨V, eV, hb0, hz, hcs⟩ := she_box w a1 a2 a3 e1 e2 e3 X Y Z
  have GG := Lib.hid (fun u (h : Below (w.heap.size + 1) V u) i (hi : i < Z.length) => (hg.below (hb0.trans (h.mono (by omega)))).at hi)
  have RX := fun u (h : Below (w.heap.size + 1) V u) => rright5_any a1 a1 e1 e1 X X u (hx.below (hb0.trans (h.mono (by omega)))) (hx.below (hb0.trans (h.mono (by omega)))) (by omega) (by omega)
  have RY := fun u (h : Below (w.heap.size + 1) V u) => rright5_any a2 a2 e2 e2 Y Y u (hy.below (hb0.trans (h.mono (by omega)))) (hy.below (hb0.trans (h.mono (by omega)))) (by omega) (by omega)
  have CR := Lib.hid (fun u (h : Below (w.heap.size + 1) V u) i (hi : i < Z.length) => rright5_any a2 (GA i) e2 (GC i) Y (Z.getD i []) u (hy.below (hb0.trans (h.mono (by omega)))) ((hg.rows i hi).below (hb0.trans (h.mono (by omega)))) (by omega) (by have := hR i hi; omega))
  have SB := Lib.hid (show shB X Y Z = (decide (X.length ≤ 16) && rgtB X X && (decide (Y.length ≤ 16) && rgtB Y Y && (decide (Z.length = X.length) && decide (∀ i, i < Z.length → rgtB Y (Z.getD i []) = true)))) from rfl)
  generalize shB X Y Z = R at *
  clear hx hy hg hR hX hY
  generalize rgtB X X = rx at *
  generalize rgtB Y Y = ry at *
  replace RX := Lib.hid RX
  replace RY := Lib.hid RY
  replace hb0 := Lib.hid hb0
  replace hz := Lib.hid hz
  replace hcs := Lib.hid hcs
  replace eV := Lib.hid eV
  rcases (show 16 < X.length ∨ X.length ≤ 16 by omega) with h1 | h1
  · obtain rfl : R = false := by rw [SB.out, decide_eq_false (show ¬ X.length ≤ 16 by omega)]; rfl
    have d : (16 : Int) < (X.length : Int) := by omega
    clear SB h1
    go_enter Try.func32, Try.ntmps32
    go_wp2_with fail
    rw [← eV.out]
    obtain ⟨k0, k1, k2⟩ := hcs.out _ (Below.refl _ _)
    go_wp2
    go_ret
    exact ⟨rfl, hb0.out⟩
  rw [decide_eq_true h1] at SB
  have i1 : (X.length : Int) ≤ 16 := by omega
  rcases (show 16 < Y.length ∨ Y.length ≤ 16 by omega) with h2 | h2
  · obtain rfl : R = false := by rw [SB.out, decide_eq_false (show ¬ Y.length ≤ 16 by omega)]; simp
    have d : (16 : Int) < (Y.length : Int) := by omega
    clear SB h2 h1
    go_enter Try.func32, Try.ntmps32
    go_wp2_with fail
    rw [← eV.out]
    obtain ⟨k0, k1, k2⟩ := hcs.out _ (Below.refl _ _)
    go_wp2
    go_ret
    exact ⟨rfl, hb0.out⟩
  rw [decide_eq_true h2] at SB
  have i2 : (Y.length : Int) ≤ 16 := by omega
  rcases (show ¬ Z.length = X.length ∨ Z.length = X.length by omega) with h3 | h3
  · obtain rfl : R = false := by rw [SB.out, decide_eq_false h3]; simp
    have d : ((Z.length : Int) != (X.length : Int)) = true := by simp; omega
    clear SB h2 h1 h3
    go_enter Try.func32, Try.ntmps32
    go_wp2_with fail
    rw [← eV.out]
    obtain ⟨k0, k1, k2⟩ := hcs.out _ (Below.refl _ _)
    go_wp2
    go_ret
    exact ⟨rfl, hb0.out⟩
  rw [decide_eq_true h3] at SB
  have i3 : ((Z.length : Int) != (X.length : Int)) = false := by simp; omega
  clear h1 h2 h3
  cases rx
  · obtain rfl : R = false := by rw [SB.out]; simp
    clear SB
    go_enter Try.func32, Try.ntmps32
    go_wp2_with fail
    rw [← eV.out]
    obtain ⟨k0, k1, k2⟩ := hcs.out _ (Below.refl _ _)
    go_wp2_with fail
    refine (RX.out _ (Below.refl _ _)).mono ?_
    rintro e w1 ⟨rfl, hb1⟩
    have hb1 := (Below.refl (w.heap.size + 1) V).trans (hb1.mono (Nat.le_of_eq hz.out.symm))
    obtain ⟨k0, k1, k2⟩ := hcs.out _ hb1
    go_wp2
    go_ret
    exact ⟨rfl, hb0.out.trans (hb1.mono (by omega))⟩
  cases ry
  · obtain rfl : R = false := by rw [SB.out]; simp
    clear SB
    go_enter Try.func32, Try.ntmps32
    go_wp2_with fail
    rw [← eV.out]
    obtain ⟨k0, k1, k2⟩ := hcs.out _ (Below.refl _ _)
    go_wp2_with fail
    refine (RX.out _ (Below.refl _ _)).mono ?_
    rintro e w1 ⟨rfl, hb1⟩
    have hb1 := (Below.refl (w.heap.size + 1) V).trans (hb1.mono (Nat.le_of_eq hz.out.symm))
    obtain ⟨k0, k1, k2⟩ := hcs.out _ hb1
    go_wp2_with fail
    refine (RY.out _ hb1).mono ?_
    rintro e w2 ⟨rfl, hb2⟩
    have hb2 := hb1.trans (hb2.mono (by have := hb1.size; have := hz.out; omega))
    clear hb1
    obtain ⟨k0, k1, k2⟩ := hcs.out _ hb2
    go_wp2
    go_ret
    exact ⟨rfl, hb0.out.trans (hb2.mono (by omega))⟩
  simp only [Bool.true_and] at SB
  go_enter Try.func32, Try.ntmps32
  go_wp2_with fail
  rw [← eV.out]
  obtain ⟨k0, k1, k2⟩ := hcs.out _ (Below.refl _ _)
  go_wp2_with fail
  refine (RX.out _ (Below.refl _ _)).mono ?_
  rintro e w1 ⟨rfl, hb1⟩
  have hb1 := (Below.refl (w.heap.size + 1) V).trans (hb1.mono (Nat.le_of_eq hz.out.symm))
  obtain ⟨k0, k1, k2⟩ := hcs.out _ hb1
  go_wp2_with fail
  refine (RY.out _ hb1).mono ?_
  rintro e w2 ⟨rfl, hb2⟩
  have hb2 := hb1.trans (hb2.mono (by have := hb1.size; have := hz.out; omega))
  clear hb1
  obtain ⟨k0, k1, k2⟩ := hcs.out _ hb2
  go_wp2_with fail
  go_loopw [3] (fun i v => ∃ j : Nat, j ≤ Z.length ∧ i = .int .i64 (j : Int) ∧ Below (w.heap.size + 1) V v ∧ Hid (∀ t, t < j → rgtB Y (Z.getD t []) = true)) (fun i _ => Z.length - (intOf i).toNat)
  case atStart => exact ⟨0, by omega, rfl, hb2, Lib.hid (fun t h => by omega)⟩
  case round =>
    clear k0 k1 k2 hb2
    obtain ⟨j, hj, rfl, hb, hU⟩ := hrel
    obtain ⟨k0, k1, k2⟩ := hcs.out _ hb
    by_cases hlt : j < Z.length
    · obtain ⟨bz, oz, ea, -, c1⟩ := GG.out _ hb j hlt
      have l1 : (j : Int) < (Z.length : Int) := by omega
      have l0 : 0 ≤ (j : Int) := by omega
      have C9 := fun u h => CR.out u h j hlt
      have HT := Lib.hid (fun (h : rgtB Y (Z.getD j []) = true) t (ht : t < j + 1) => show rgtB Y (Z.getD t []) = true from by
        by_cases e : t = j
        · subst e; exact h
        · exact hU.out t (by omega))
      have HF := Lib.hid (fun (h : rgtB Y (Z.getD j []) = false) => show R = false from by
        rw [SB.out]
        exact decide_eq_false (fun hh => by have := hh j hlt; rw [h] at this; cases this))
      have G9 := Lib.hid (fun u h => GG.out u h j hlt)
      cases hr : rgtB Y (Z.getD j [])
      all_goals
        rw [hr] at C9
        first | replace HF := Lib.hid (HF.out hr) | skip
        first | replace HT := Lib.hid (HT.out hr) | skip
        generalize (Z.getD j []).length = n at *
        replace C9 := Lib.hid C9
        subst ea
        clear hr hU
        go_wp2_with fail
        refine region_moves (fun u => u.cell? ⟨w.heap.size, 1, none⟩ = some (.slice a2 Y.length e2) ∧ u.cell? ⟨w.heap.size, 2, none⟩ = some (.slice (some ⟨bz, oz, none⟩) Z.length e3) ∧ u.cell? ⟨bz, oz + j, none⟩ = some (.slice (GA j) n (GC j))) [] [(.free, 0), (.take, 1), (.free, 2), (.take, 3), (.free, 4), (.free, 5), (.take, 6), (.free, 7), (.step, 8), (.free, 9)] _ (by kernel_rfl) (by kernel_rfl) (by kernel_rfl) (by kernel_rfl) (by decide) rfl (fun _ _ _ _ _ h => h) ?_
        simp only [List.filterMap_cons, List.filterMap_nil, List.getElem?_toArray, List.getElem?_cons_zero, List.getElem?_cons_succ, Option.map_some]
        iterate 1
          first
            | (refine mv_free ?_ (Or.inl ⟨by rfl, ?_⟩) (⟨k1, k2, c1⟩) ?_
               rotate_left 1
               · intro u
                 go_simp
                 try simp only [d1]
                 try simp only [d2]
                 try simp only [d3]
                 try with_reducible rfl
               simp only [Act.put, List.setIfInBounds_toArray, List.set_cons_zero, List.set_cons_succ])
            | (refine mv_free _ (Or.inr ⟨by rfl, rfl⟩) (⟨k1, k2, c1⟩) ?_
               simp only [Act.put, List.setIfInBounds_toArray, List.set_cons_zero, List.set_cons_succ])
        iterate 1
          first
            | (refine mv_take ?_ (Or.inl ⟨by rfl, ?_⟩) (⟨k1, k2, c1⟩) ?_
               rotate_left 1
               · intro u hu
                 (try dsimp only at hu)
                 go_simp
                 try with_reducible rfl
               simp only [Act.put, List.setIfInBounds_toArray, List.set_cons_zero, List.set_cons_succ])
            | (refine mv_take _ (Or.inr ⟨by rfl, rfl⟩) (⟨k1, k2, c1⟩) ?_
               simp only [Act.put, List.setIfInBounds_toArray, List.set_cons_zero, List.set_cons_succ])
        iterate 1
          first
            | (refine mv_free ?_ (Or.inl ⟨by rfl, ?_⟩) (⟨k1, k2, c1⟩) ?_
               rotate_left 1
               · intro u
                 go_simp
                 try simp only [d1]
                 try simp only [d2]
                 try simp only [d3]
                 try with_reducible rfl
               simp only [Act.put, List.setIfInBounds_toArray, List.set_cons_zero, List.set_cons_succ])
            | (refine mv_free _ (Or.inr ⟨by rfl, rfl⟩) (⟨k1, k2, c1⟩) ?_
               simp only [Act.put, List.setIfInBounds_toArray, List.set_cons_zero, List.set_cons_succ])
        iterate 1
          first
            | (refine mv_take ?_ (Or.inl ⟨by rfl, ?_⟩) (⟨k1, k2, c1⟩) ?_
               rotate_left 1
               · intro u hu
                 (try dsimp only at hu)
                 go_simp
                 try with_reducible rfl
               simp only [Act.put, List.setIfInBounds_toArray, List.set_cons_zero, List.set_cons_succ])
            | (refine mv_take _ (Or.inr ⟨by rfl, rfl⟩) (⟨k1, k2, c1⟩) ?_
               simp only [Act.put, List.setIfInBounds_toArray, List.set_cons_zero, List.set_cons_succ])
        iterate 2
          first
            | (refine mv_free ?_ (Or.inl ⟨by rfl, ?_⟩) (⟨k1, k2, c1⟩) ?_
               rotate_left 1
               · intro u
                 go_simp
                 try simp only [d1]
                 try simp only [d2]
                 try simp only [d3]
                 try with_reducible rfl
               simp only [Act.put, List.setIfInBounds_toArray, List.set_cons_zero, List.set_cons_succ])
            | (refine mv_free _ (Or.inr ⟨by rfl, rfl⟩) (⟨k1, k2, c1⟩) ?_
               simp only [Act.put, List.setIfInBounds_toArray, List.set_cons_zero, List.set_cons_succ])
        iterate 1
          first
            | (refine mv_take ?_ (Or.inl ⟨by rfl, ?_⟩) (⟨k1, k2, c1⟩) ?_
               rotate_left 1
               · intro u hu
                 (try dsimp only at hu)
                 go_simp
                 try with_reducible rfl
               simp only [Act.put, List.setIfInBounds_toArray, List.set_cons_zero, List.set_cons_succ])
            | (refine mv_take _ (Or.inr ⟨by rfl, rfl⟩) (⟨k1, k2, c1⟩) ?_
               simp only [Act.put, List.setIfInBounds_toArray, List.set_cons_zero, List.set_cons_succ])
        iterate 1
          first
            | (refine mv_free ?_ (Or.inl ⟨by rfl, ?_⟩) (⟨k1, k2, c1⟩) ?_
               rotate_left 1
               · intro u
                 go_simp
                 try simp only [d1]
                 try simp only [d2]
                 try simp only [d3]
                 try with_reducible rfl
               simp only [Act.put, List.setIfInBounds_toArray, List.set_cons_zero, List.set_cons_succ])
            | (refine mv_free _ (Or.inr ⟨by rfl, rfl⟩) (⟨k1, k2, c1⟩) ?_
               simp only [Act.put, List.setIfInBounds_toArray, List.set_cons_zero, List.set_cons_succ])
        refine mv_step (fun K hK => ?_)
        go_simp
        refine (C9.out _ hb.drew).mono ?_
        rintro e w3 ⟨rfl, hb3⟩
        have hb3 := hb.drew.trans (hb3.mono (by have := hb.size; have := hz.out; show _ ≤ wr.heap.size; omega))
        obtain ⟨k0, k1, k2⟩ := hcs.out _ hb3
        obtain ⟨bz', oz', ea, -, c1⟩ := G9.out _ hb3
        injection ea with ea
        injection ea with e1' e2'
        subst e1' e2'
        go_wp2_with fail
        refine hK.out _ _ _ (fun u hu => hu) (⟨k1, k2, c1⟩) ?_
        clear hK K
        iterate 1
          first
            | (refine mv_free ?_ (Or.inl ⟨by rfl, ?_⟩) (⟨k1, k2, c1⟩) ?_
               rotate_left 1
               · intro u
                 go_simp
                 try simp only [d1]
                 try simp only [d2]
                 try simp only [d3]
                 try with_reducible rfl
               simp only [Act.put, List.setIfInBounds_toArray, List.set_cons_zero, List.set_cons_succ])
            | (refine mv_free _ (Or.inr ⟨by rfl, rfl⟩) (⟨k1, k2, c1⟩) ?_
               simp only [Act.put, List.setIfInBounds_toArray, List.set_cons_zero, List.set_cons_succ])
        refine mv_done ?_
        go_wp2
      · go_ret
        exact ⟨ret_bool HF.out.symm, hb0.out.trans (hb3.mono (by omega))⟩
      · go_roundw
        case rel => exact ⟨j + 1, by omega, by go_num, hb3, HT⟩
        case measure => simp [intOf]; omega
    · have hge : (Z.length : Int) ≤ (j : Int) := by omega
      have hf := Lib.hid (show R = true from by rw [SB.out]; exact decide_eq_true (fun i hi => hU.out i (by omega)))
      go_wp2
      go_ret
      exact ⟨ret_bool hf.out.symm, hb0.out.trans (hb.mono (by omega))⟩
end Go.Proofs.Yticecjjlafmclaa
