/- Words: the quotient, a word put; walked. -/
import Derived.Test.YtffhhdjcodapjaaWord3
import Derived.Test.YtffhhdjcodapjaaWide3
import Derived.Test.YtffhhdjcodapjaaClip09
namespace Go.Proofs.Ytffhhdjcodapjaa
open Go.ChangeShapes Go.WideShapes Go.ChangeAt Go.RowKit
set_option linter.unusedVariables false
set_option linter.unusedSimpArgs false
theorem wdiv_bd {x s B : Int} (hs : 1 ≤ s) (hB : 0 ≤ B) (h0 : -B ≤ x) (h1 : x ≤ B) : -B ≤ x / s ∧ x / s ≤ B := by
  have m : B * 1 ≤ B * s := Int.mul_le_mul_of_nonneg_left hs hB
  rw [Int.mul_one] at m
  constructor
  · apply Int.le_ediv_of_mul_le (by omega)
    rw [Int.neg_mul]; omega
  · apply Int.le_of_lt_add_one
    apply Int.ediv_lt_of_lt_mul (by omega)
    rw [Int.add_mul]; omega
/-- The quotient, and the number. -/
def qX (v sc : Int) : Int := (c09 v (-274877906944) 274877906944 + sc / 2) / sc
def loI (sg : Bool) (bi : Int) : Int := if sg = true then -(pwI bi) else 0
def qN (sg : Bool) (bi sc v : Int) : Int := c09 (qX v sc) (loI sg bi) (pwI bi - 1)
theorem qX_bd {v sc : Int} (s0 : 1 ≤ sc) (s1 : sc ≤ 1073741824) : -549755813888 ≤ qX v sc ∧ qX v sc ≤ 549755813888 := by
  have := c09_bd v (-274877906944) 274877906944 (by omega)
  exact wdiv_bd s0 (by omega) (by omega) (by omega)
theorem loI_bd {sg : Bool} {bi : Int} (h0 : 1 ≤ bi) (h1 : bi ≤ 18) : -262144 ≤ loI sg bi ∧ loI sg bi ≤ 0 ∧ -(pwI bi) ≤ loI sg bi := by
  have := pwI_bd (b := bi) (by omega) h1
  unfold loI
  split <;> omega
theorem qN_bd {sg : Bool} {bi sc v : Int} (h0 : 1 ≤ bi) (h1 : bi ≤ 18) : loI sg bi ≤ qN sg bi sc v ∧ qN sg bi sc v ≤ pwI bi - 1 := by
  have := pwI_bd (b := bi) (by omega) h1
  have := loI_bd (sg := sg) h0 h1
  exact c09_bd _ _ _ (by omega)
def mxI (x a : Int) : Int := if x < a then a else x
theorem mm_c09 (x a b : Int) (h : a ≤ b) : (if b < mxI x a then b else mxI x a) = c09 x a b := by unfold c09 mxI; omega
theorem wq_posW {a b c : Int} (hc : 0 < c) : wq a b c = a * b / c := by
  unfold wq wN mag
  rw [if_neg (by omega), if_neg (by omega)]
theorem flV_posW {a b c : Int} (hc : 0 < c) (h1 : -1099511627775 ≤ a * b / c) (h2 : a * b / c ≤ 1099511627775) : flV a b c = a * b / c := by
  unfold flV flB wIn
  rw [wq_posW hc]
  rw [if_pos]
  simp
  exact ⟨by omega, h1, h2⟩
set_option maxRecDepth 100000 in
set_option maxHeartbeats 8000000 in
theorem wspare (nu bi sc : Int) (sg : Bool) (h1 : 1 ≤ bi) (h2 : bi ≤ 18) (w : World) : Calls Try.prog 66 #[.agg #[.int .i64 nu, .int .i64 bi, .int .i64 sc, .bool sg]] w fun e w' => e = .returned (.int .i64 (18 - bi)) ∧ Below w.heap.size w w' := by
  go_enter Try.func66, Try.ntmps66
  go_wp2
  go_ret
  exact ⟨rfl, (by repeat (first | exact Below.refl _ _ | assumption | apply Below.drew | apply below_drewN | (refine Below.alloc ?_ (by first | exact Nat.le_refl _ | omega | (simp <;> omega)) _) | (refine Below.setCell ?_ (by first | exact Nat.le_refl _ | omega | (simp <;> omega)) _)))⟩
theorem wcb_box (w : World) (nu bi sc : Int) (sg : Bool) : ∃ V, V = (w.alloc (.cells #[.int .i64 nu, .int .i64 bi, .int .i64 sc, .bool sg] 122)) ∧ Below w.heap.size w V ∧ V.heap.size = w.heap.size + 1 ∧ ∀ u, Below (w.heap.size + 1) V u → u.cell? ⟨w.heap.size, 0, none⟩ = some (.int .i64 nu) ∧ u.cell? ⟨w.heap.size, 1, none⟩ = some (.int .i64 bi) ∧ u.cell? ⟨w.heap.size, 2, none⟩ = some (.int .i64 sc) ∧ u.cell? ⟨w.heap.size, 3, none⟩ = some (.bool sg) :=
  ⟨_, rfl, (by repeat (first | exact Below.refl _ _ | assumption | apply Below.drew | apply below_drewN | (refine Below.alloc ?_ (by first | exact Nat.le_refl _ | omega | (simp <;> omega)) _) | (refine Below.setCell ?_ (by first | exact Nat.le_refl _ | omega | (simp <;> omega)) _))), by simp, fun u hu => ⟨(bc hu (by omega)).trans (by go_simp), (bc hu (by omega)).trans (by go_simp), (bc hu (by omega)).trans (by go_simp), (bc hu (by omega)).trans (by go_simp)⟩⟩
set_option maxRecDepth 100000 in
set_option maxHeartbeats 8000000 in
theorem wquot (nu bi sc : Int) (sg : Bool) (v : Int) (h1 : 1 ≤ bi) (h2 : bi ≤ 18) (s0 : 1 ≤ sc) (s1 : sc ≤ 1073741824) (w : World) : Calls Try.prog 65 #[.agg #[.int .i64 nu, .int .i64 bi, .int .i64 sc, .bool sg], .int .i64 v] w fun e w' => e = .returned (.tuple #[.int .i64 (qN sg bi sc v), .bool (qN sg bi sc v != qX v sc)]) ∧ Below w.heap.size w w' := by
  obtain ⟨V, eV, hb0, hz, hcs⟩ := wcb_box w nu bi sc sg
  have LM := Lib.hid (fun u => show Calls Try.prog 75 #[.agg #[.int .i64 nu, .int .i64 bi, .int .i64 sc, .bool sg]] u fun e w' => e = .returned (.tuple #[.int .i64 (loI sg bi), .int .i64 (pwI bi - 1)]) ∧ Below u.heap.size u w' from wlimits nu bi sc sg h1 h2 u)
  have hp := pwI_bd (b := bi) (by omega) h2
  have hl := loI_bd (sg := sg) h1 h2
  have e2 := mm_c09 (qX v sc) (loI sg bi) (pwI bi - 1) (by omega)
  have hq := qX_bd (v := v) s0 s1
  have e1 := mm_c09 v (-274877906944) 274877906944 (by omega)
  have hc := c09_bd v (-274877906944) 274877906944 (by omega)
  have FL := fun u => floor_any (c09 v (-274877906944) 274877906944 + sc / 2) 1 sc u (by omega) (by omega) (by omega) (by omega) (by omega) (by omega)
  have hq2 := hq
  rw [show qX v sc = (c09 v (-274877906944) 274877906944 + sc / 2) * 1 / sc by rw [Int.mul_one]; rfl] at hq2
  rw [flV_posW (by omega) (by omega) (by omega), show (c09 v (-274877906944) 274877906944 + sc / 2) * 1 / sc = qX v sc by rw [Int.mul_one]; rfl] at FL
  clear hq2
  have e1a : (if v < -274877906944 then -274877906944 else v) = mxI v (-274877906944) := rfl
  have e2a : (if qX v sc < loI sg bi then loI sg bi else qX v sc) = mxI (qX v sc) (loI sg bi) := rfl
  generalize mxI v (-274877906944) = D1 at *
  generalize mxI (qX v sc) (loI sg bi) = X1 at *
  generalize flB (c09 v (-274877906944) 274877906944 + sc / 2) 1 sc = fb at *
  rw [show qN sg bi sc v = c09 (qX v sc) (loI sg bi) (pwI bi - 1) from rfl]
  generalize c09 (qX v sc) (loI sg bi) (pwI bi - 1) = N at *
  generalize qX v sc = X at *
  generalize loI sg bi = lo at *
  generalize pwI bi = P at *
  generalize c09 v (-274877906944) 274877906944 = D at *
  have ts : sc.tdiv 2 = sc / 2 := Int.tdiv_eq_ediv_of_nonneg (by omega)
  replace FL := Lib.hid FL
  clear h1 h2
  replace hb0 := Lib.hid hb0
  replace hz := Lib.hid hz
  replace hcs := Lib.hid hcs
  replace eV := Lib.hid eV
  go_enter Try.func65, Try.ntmps65
  go_wp2_with fail
  rw [← eV.out]
  obtain ⟨k0, k1, k2, k3⟩ := hcs.out _ (Below.refl _ _)
  go_wp2_with fail
  refine (FL.out _).mono ?_
  rintro e w1 ⟨rfl, hb1⟩
  have hb1 := (Below.refl (w.heap.size + 1) V).trans (hb1.mono (Nat.le_of_eq hz.out.symm))
  obtain ⟨k0, k1, k2, k3⟩ := hcs.out _ hb1
  go_wp2_with fail
  refine (LM.out _).mono ?_
  rintro e w2 ⟨rfl, hb2⟩
  have hb2 := hb1.trans (hb2.mono (by have := hb1.size; have := hz.out; omega))
  clear hb1
  obtain ⟨k0, k1, k2, k3⟩ := hcs.out _ hb2
  go_wp2
  go_ret2
  exact ⟨rfl, hb0.out.trans (hb2.mono (by omega))⟩
end Go.Proofs.Ytffhhdjcodapjaa
