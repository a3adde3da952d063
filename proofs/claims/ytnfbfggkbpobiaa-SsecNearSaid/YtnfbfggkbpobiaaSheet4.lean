/- The chapter's example; the law SheetTells, walked. -/
import Derived.Test.YtnfbfggkbpobiaaSheet3
import Derived.Deep.Cut
namespace Go.Proofs.Ytnfbfggkbpobiaa
open Go.ChangeShapes Go.WideShapes Go.ChangeAt Go.RowKit
set_option linter.unusedVariables false
set_option linter.unusedSimpArgs false

def two (p q : Option Addr) (i : Nat) : Option Addr := if i = 0 then p else q
theorem grid2_at {W : World} {b x y : Nat} {p q r s : Int} (hb : b < W.heap.size) (h0 : W.cell? ⟨b, 0, none⟩ = some (.slice (some ⟨x, 0, none⟩) 2 2)) (h1 : W.cell? ⟨b, 1, none⟩ = some (.slice (some ⟨y, 0, none⟩) 2 2)) (r0 : RowIs .i64 W (some ⟨x, 0, none⟩) [p, q]) (r1 : RowIs .i64 W (some ⟨y, 0, none⟩) [r, s]) :
    GridIs .i64 W (some ⟨b, 0, none⟩) (two (some ⟨x, 0, none⟩) (some ⟨y, 0, none⟩)) (fun _ => 2) [[p, q], [r, s]] :=
  ⟨.inr ⟨b, 0, rfl, hb, fun i hi => by
    rcases i with _ | _ | i
    · exact h0
    · exact h1
    · have h2 : i + 1 + 1 < 2 := hi
      omega⟩, fun i hi => by
    rcases i with _ | _ | i
    · exact r0
    · exact r1
    · have h2 : i + 1 + 1 < 2 := hi
      omega⟩
theorem k06 : CrK [0, 10] 5 1 := by
  refine ⟨by decide, fun t ht => ?_, fun t a b => ?_⟩
  · obtain rfl : t = 0 := by omega
    decide
  · have b' : t < 2 := b
    obtain rfl : t = 1 := by omega
    decide
theorem one06 : crF [0, 10] (cuL [0, 10] [[0, 10], [20, 30]] 5) 5 = 15 := by
  unfold cuL
  rw [List.map_cons, List.map_cons, List.map_nil, crF_at (Y := [0, 10]) (by decide +kernel) k06, crF_at (Y := [20, 30]) (by decide +kernel) k06, crF_at (by decide +kernel) k06]
  decide +kernel
theorem sh06 : shB [0, 10] [0, 10] [[0, 10], [20, 30]] = true := by decide +kernel
set_option maxRecDepth 100000 in
set_option maxHeartbeats 8000000 in
theorem lives06 (w : World) : Calls Try.prog 16 #[] w fun e w' => e = .returned (.bool true) ∧ Below w.heap.size w w' := by
  have AT := fun a b c p q u h1 h2 h3 => sat_any a b c (two p q) (fun _ => 2) 2 2 2 [0, 10] [0, 10] [[0, 10], [20, 30]] 5 5 u h1 h2 h3 (by decide) (by decide) (by decide) (by decide)
  rw [sh06, if_pos rfl, one06] at AT
  replace AT : ∀ a b c p q u, RowIs .i64 u a [0, 10] → RowIs .i64 u b [0, 10] → GridIs .i64 u c (two p q) (fun _ => 2) [[0, 10], [20, 30]] → Calls Try.prog 17 #[.agg #[.slice a 2 2, .slice b 2 2, .slice c 2 2], .int .i64 5, .int .i64 5] u fun e w' => e = .returned (.tuple #[.int .i64 15, .bool true]) ∧ Below u.heap.size u w' := AT
  replace AT := Lib.hid AT
  go_enter Try.func16, Try.ntmps16
  go_wp2_with fail
  refine (AT.out _ _ _ _ _ _ (row2_at (by simp; try omega) (by go_simp) (by go_simp)) (row2_at (by simp; try omega) (by go_simp) (by go_simp)) (grid2_at (x := w.heap.size + 1 + 1) (y := w.heap.size + 1 + 1 + 1) (by simp; try omega) (by go_simp) (by go_simp) (row2_at (by simp; try omega) (by go_simp) (by go_simp)) (row2_at (by simp; try omega) (by go_simp) (by go_simp)))).mono ?_
  rintro e w1 ⟨rfl, hb1⟩
  have hb2 := Lib.hid (show Below w.heap.size w w1 from (Below.trans (by repeat (first | exact Below.refl _ _ | assumption | apply Below.drew | apply below_drewN | (refine Below.alloc ?_ (by first | exact Nat.le_refl _ | omega | (simp <;> omega)) _) | (refine Below.setCell ?_ (by first | exact Nat.le_refl _ | omega | (simp <;> omega)) _))) (hb1.mono (by simp; try omega))))
  clear hb1
  go_wp2
  go_ret
  exact ⟨rfl, hb2.out⟩
theorem sht_box (w : World) (a1 a2 a3 : Option Addr) (e1 e2 e3 : Nat) (X Y : List Int) (Z : List (List Int)) : ∃ V, V = (w.alloc (.cells #[.slice a1 X.length e1, .slice a2 Y.length e2, .slice a3 Z.length e3] 25)) ∧ Below w.heap.size w V ∧ V.heap.size = w.heap.size + 1 ∧ ∀ u, Below (w.heap.size + 1) V u → u.cell? ⟨w.heap.size, 0, none⟩ = some (.slice a1 X.length e1) ∧ u.cell? ⟨w.heap.size, 1, none⟩ = some (.slice a2 Y.length e2) ∧ u.cell? ⟨w.heap.size, 2, none⟩ = some (.slice a3 Z.length e3) :=
  ⟨_, rfl, (by repeat (first | exact Below.refl _ _ | assumption | apply Below.drew | apply below_drewN | (refine Below.alloc ?_ (by first | exact Nat.le_refl _ | omega | (simp <;> omega)) _) | (refine Below.setCell ?_ (by first | exact Nat.le_refl _ | omega | (simp <;> omega)) _))), by simp, fun u hu => ⟨(bc hu (by omega)).trans (by go_simp), (bc hu (by omega)).trans (by go_simp), (bc hu (by omega)).trans (by go_simp)⟩⟩
set_option maxRecDepth 100000 in
set_option maxHeartbeats 8000000 in
theorem law_SheetTells (a1 a2 a3 : Option Addr) (GA : Nat → Option Addr) (GC : Nat → Nat) (e1 e2 e3 : Nat) (X Y : List Int) (Z : List (List Int)) (x y : Int) (w : World) (hx : RowIs .i64 w a1 X) (hy : RowIs .i64 w a2 Y) (hg : GridIs .i64 w a3 GA GC Z) : Calls Try.prog 3 #[.agg #[.slice a1 X.length e1, .slice a2 Y.length e2, .slice a3 Z.length e3], .int .i64 x, .int .i64 y] w fun e w' => e = .returned (.bool true) ∧ Below w.heap.size w w' := by
  obtain ⟨V, eV, hb0, hz, hcs⟩ := sht_box w a1 a2 a3 e1 e2 e3 X Y Z
  have W := fun u (h : Below (w.heap.size + 1) V u) => show Below w.heap.size w u from hb0.trans (h.mono (by omega))
  have LV := Lib.hid (fun u => lives06 u)
  have GR := Lib.hid (fun u (h : Below (w.heap.size + 1) V u) => sgreat a1 a2 a3 GA GC e1 e2 e3 X Y Z u (hg.below (W u h)))
  have AT := Lib.hid (fun hX hY hZ hR u (h : Below (w.heap.size + 1) V u) => sat_any a1 a2 a3 GA GC e1 e2 e3 X Y Z x y u (hx.below (W u h)) (hy.below (W u h)) (hg.below (W u h)) hX hY hZ hR)
  have RD := Lib.hid (fun hX hY hZ hR u (h : Below (w.heap.size + 1) V u) => rright06 a1 a2 a3 GA GC e1 e2 e3 X Y Z u (hx.below (W u h)) (hy.below (W u h)) (hg.below (W u h)) hX hY hZ hR)
  have RS := Lib.hid (fun hX hY hZ hR u (h : Below (w.heap.size + 1) V u) => sright a1 a2 a3 GA GC e1 e2 e3 X Y Z u (hx.below (W u h)) (hy.below (W u h)) (hg.below (W u h)) hX hY hZ hR)
  have RA := Lib.hid (fun hX hY hZ hR hs u (h : Below (w.heap.size + 1) V u) => rat06 a1 a2 a3 GA GC e1 e2 e3 X Y Z x y u (hx.below (W u h)) (hy.below (W u h)) (hg.below (W u h)) hX hY hZ hR hs)
  clear hx hy hg W
  replace hb0 := Lib.hid hb0
  replace hz := Lib.hid hz
  replace hcs := Lib.hid hcs
  replace eV := Lib.hid eV
  go_enter Try.func3, Try.ntmps3
  go_wp2_with fail
  rw [← eV.out]
  obtain ⟨k0, k1, k2⟩ := hcs.out _ (Below.refl _ _)
  go_wp2_with fail
  refine (GR.out _ (Below.refl _ _)).mono ?_
  rintro e w1 ⟨g, rfl, hgb, hb1⟩
  have hb1 := (Below.refl (w.heap.size + 1) V).trans (hb1.mono (Nat.le_of_eq hz.out.symm))
  obtain ⟨k0, k1, k2⟩ := hcs.out _ hb1
  cases g
  case true =>
    clear hgb AT RD RS RA
    go_wp2_with fail
    refine (LV.out _).mono ?_
    rintro e w20 ⟨rfl, hb20⟩
    have hb20 := hb1.trans (hb20.mono (by have := hb1.size; have := hz.out; omega))
    go_wp2
    go_ret
    exact ⟨rfl, hb0.out.trans (hb20.mono (by omega))⟩
  case false =>
    obtain ⟨hX, hY, hZ, hR⟩ := hgb rfl
    have AT1 := AT.out hX hY hZ hR
    have RD1 := RD.out hX hY hZ hR
    have RS1 := RS.out hX hY hZ hR
    cases hs : shB X Y Z
    · rw [hs] at RD1 RS1 AT1
      simp only [Bool.false_eq_true, if_false] at AT1
      replace AT1 := Lib.hid AT1
      replace RD1 := Lib.hid RD1
      replace RS1 := Lib.hid RS1
      clear hgb AT RD RS RA hX hY hZ hR hs
      go_wp2_with fail
      refine (AT1.out _ hb1).mono ?_
      rintro e w2 ⟨rfl, hb2⟩
      have hb2 := hb1.trans (hb2.mono (by have := hb1.size; have := hz.out; omega))
      clear hb1
      obtain ⟨k0, k1, k2⟩ := hcs.out _ hb2
      go_wp2_with fail
      refine (RD1.out _ hb2).mono ?_
      rintro e w3 ⟨rfl, hb3⟩
      have hb3 := hb2.trans (hb3.mono (by have := hb2.size; have := hz.out; omega))
      clear hb2
      obtain ⟨k0, k1, k2⟩ := hcs.out _ hb3
      go_wp2_with fail
      refine (RS1.out _ hb3).mono ?_
      rintro e w4 ⟨rfl, hb4⟩
      have hb4 := hb3.trans (hb4.mono (by have := hb3.size; have := hz.out; omega))
      clear hb3
      obtain ⟨k0, k1, k2⟩ := hcs.out _ hb4
      go_wp2_with fail
      refine (LV.out _).mono ?_
      rintro e w20 ⟨rfl, hb20⟩
      have hb20 := hb4.trans (hb20.mono (by have := hb4.size; have := hz.out; omega))
      go_wp2
      go_ret
      exact ⟨rfl, hb0.out.trans (hb20.mono (by omega))⟩
    · have RA1 := RA.out hX hY hZ hR hs
      rw [hs] at RD1 RS1 AT1
      simp only [if_true] at AT1
      generalize crF X (cuL Y Z y) x = v at *
      have d1 : (v == v) = true := by simp
      replace AT1 := Lib.hid AT1
      replace RD1 := Lib.hid RD1
      replace RS1 := Lib.hid RS1
      replace RA1 := Lib.hid RA1
      clear hgb AT RD RS RA hX hY hZ hR hs
      go_wp2_with fail
      refine (AT1.out _ hb1).mono ?_
      rintro e w2 ⟨rfl, hb2⟩
      have hb2 := hb1.trans (hb2.mono (by have := hb1.size; have := hz.out; omega))
      clear hb1
      obtain ⟨k0, k1, k2⟩ := hcs.out _ hb2
      go_wp2_with fail
      refine (RD1.out _ hb2).mono ?_
      rintro e w3 ⟨rfl, hb3⟩
      have hb3 := hb2.trans (hb3.mono (by have := hb2.size; have := hz.out; omega))
      clear hb2
      obtain ⟨k0, k1, k2⟩ := hcs.out _ hb3
      go_wp2_with fail
      refine (RS1.out _ hb3).mono ?_
      rintro e w4 ⟨rfl, hb4⟩
      have hb4 := hb3.trans (hb4.mono (by have := hb3.size; have := hz.out; omega))
      clear hb3
      obtain ⟨k0, k1, k2⟩ := hcs.out _ hb4
      go_wp2_with fail
      refine (RA1.out _ hb4).mono ?_
      rintro e w5 ⟨rfl, hb5⟩
      have hb5 := hb4.trans (hb5.mono (by have := hb4.size; have := hz.out; omega))
      clear hb4
      obtain ⟨k0, k1, k2⟩ := hcs.out _ hb5
      go_wp2_with fail
      refine (LV.out _).mono ?_
      rintro e w20 ⟨rfl, hb20⟩
      have hb20 := hb5.trans (hb20.mono (by have := hb5.size; have := hz.out; omega))
      go_wp2
      go_ret
      exact ⟨rfl, hb0.out.trans (hb20.mono (by omega))⟩
end Go.Proofs.Ytnfbfggkbpobiaa
