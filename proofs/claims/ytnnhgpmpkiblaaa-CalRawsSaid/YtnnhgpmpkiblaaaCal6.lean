/- Package cal: Raw by halving, Error of anything; the laws CalRaws and CalBack, walked. -/
import Derived.Test.YtnnhgpmpkiblaaaCal4
import Derived.Test.YtnnhgpmpkiblaaaSearch
namespace Go.Proofs.Ytnnhgpmpkiblaaa
open Go.ChangeShapes Go.WideShapes Go.ChangeAt Go.RowKit
set_option linter.unusedVariables false
set_option linter.unusedSimpArgs false

/-- Is no less told of the raw value at a place? -/
def rwP (ga of sl dr v t : Int) (i : Nat) : Bool := decide (v ≤ clV ga of sl dr (-8388608 + (i : Int)) t)
theorem rwP_mono {ga of sl dr : Int} (ok : ClOk ga of sl dr) (v t : Int) (n : Nat) : ∀ a b : Nat, a ≤ b → b < n → rwP ga of sl dr v t a = true → rwP ga of sl dr v t b = true := fun a b h _ hp => by
  have := clV_rises ok t (show -8388608 + (a : Int) ≤ -8388608 + (b : Int) by omega)
  unfold rwP at *
  simp at *
  omega
/-- What the closure reads. -/
def RwS (b : Nat) (ga of sl dr v t : Int) (u : World) : Prop := u.cell? ⟨b, 0, none⟩ = some (.int .i64 ga) ∧ u.cell? ⟨b, 1, none⟩ = some (.int .i64 of) ∧ u.cell? ⟨b, 2, none⟩ = some (.int .i64 sl) ∧ u.cell? ⟨b, 3, none⟩ = some (.int .i64 dr) ∧ u.cell? ⟨b + 1, 0, none⟩ = some (.int .i64 v) ∧ u.cell? ⟨b + 2, 0, none⟩ = some (.int .i64 t)
theorem RwS.bel {b : Nat} {ga of sl dr v t : Int} {u u' : World} (h : RwS b ga of sl dr v t u) {B : Nat} (hB : b + 2 < B) (k : Below B u u') : RwS b ga of sl dr v t u' := by
  obtain ⟨h1, h2, h3, h4, h5, h6⟩ := h
  exact ⟨(bc k (by omega)).trans h1, (bc k (by omega)).trans h2, (bc k (by omega)).trans h3, (bc k (by omega)).trans h4, (bc k (by omega)).trans h5, (bc k (by omega)).trans h6⟩
set_option maxRecDepth 100000 in
set_option maxHeartbeats 4000000 in
theorem craw1_any {ga of sl dr : Int} (ok : ClOk ga of sl dr) (b : Nat) (v t : Int) (i : Nat) (hi : i < 16777216) (w : World) (hS : RwS b ga of sl dr v t w) (hlt : b + 2 < w.heap.size) :
    Calls Try.prog 78 (#[.int .i64 (i : Nat)] ++ #[.pointer (some ⟨b, 0, none⟩), .pointer (some ⟨b + 2, 0, none⟩), .pointer (some ⟨b + 1, 0, none⟩)]) w fun e w' => e = .returned (.bool (rwP ga of sl dr v t i)) ∧ Below w.heap.size w w' := by
  have VL := Lib.hid (fun u => cvalue_any ok (-8388608 + (i : Int)) t u)
  have HP := Lib.hid (show rwP ga of sl dr v t i = decide (v ≤ clV ga of sl dr (-8388608 + (i : Int)) t) from rfl)
  generalize clV ga of sl dr (-8388608 + (i : Int)) t = R at *
  generalize rwP ga of sl dr v t i = q at *
  obtain ⟨c0, c1, c2, c3, c4, c5⟩ := hS
  have hw : IntKind.i64.wrap (-8388608 + (i : Int)) = -8388608 + (i : Int) := IntWalk.i64_in _ ⟨by omega, by omega⟩
  clear ok hi
  have HL := Lib.hid hlt
  clear hlt
  go_enter Try.func78, Try.ntmps78
  go_wp2_with fail
  refine region_moves (fun u => u.cell? ⟨b, 0, none⟩ = some (.int .i64 ga) ∧ u.cell? ⟨b, 1, none⟩ = some (.int .i64 of) ∧ u.cell? ⟨b, 2, none⟩ = some (.int .i64 sl) ∧ u.cell? ⟨b, 3, none⟩ = some (.int .i64 dr) ∧ u.cell? ⟨b + 1, 0, none⟩ = some (.int .i64 v) ∧ u.cell? ⟨b + 2, 0, none⟩ = some (.int .i64 t)) [] [(.take, 0), (.free, 1), (.free, 2), (.take, 3), (.take, 5), (.step, 4), (.free, 6), (.free, 7)] _ (by kernel_rfl) (by kernel_rfl) (by kernel_rfl) (by kernel_rfl) (by decide) rfl (fun _ _ _ _ _ h => h) ?_
  simp only [List.filterMap_cons, List.filterMap_nil, List.getElem?_toArray, List.getElem?_cons_zero, List.getElem?_cons_succ, Option.map_some]
  iterate 1
    first
      | (refine mv_take ?_ (Or.inl ⟨by rfl, ?_⟩) (⟨c0, c1, c2, c3, c4, c5⟩) ?_
         rotate_left 1
         · intro u hu
           (try dsimp only at hu)
           go_simp
           try with_reducible rfl
         simp only [Act.put, List.setIfInBounds_toArray, List.set_cons_zero, List.set_cons_succ])
      | (refine mv_take _ (Or.inr ⟨by rfl, rfl⟩) (⟨c0, c1, c2, c3, c4, c5⟩) ?_
         simp only [Act.put, List.setIfInBounds_toArray, List.set_cons_zero, List.set_cons_succ])
  iterate 2
    first
      | (refine mv_free ?_ (Or.inl ⟨by rfl, ?_⟩) (⟨c0, c1, c2, c3, c4, c5⟩) ?_
         rotate_left 1
         · intro u
           go_simp
           try with_reducible rfl
         simp only [Act.put, List.setIfInBounds_toArray, List.set_cons_zero, List.set_cons_succ])
      | (refine mv_free _ (Or.inr ⟨by rfl, rfl⟩) (⟨c0, c1, c2, c3, c4, c5⟩) ?_
         simp only [Act.put, List.setIfInBounds_toArray, List.set_cons_zero, List.set_cons_succ])
  iterate 2
    first
      | (refine mv_take ?_ (Or.inl ⟨by rfl, ?_⟩) (⟨c0, c1, c2, c3, c4, c5⟩) ?_
         rotate_left 1
         · intro u hu
           (try dsimp only at hu)
           go_simp
           try with_reducible rfl
         simp only [Act.put, List.setIfInBounds_toArray, List.set_cons_zero, List.set_cons_succ])
      | (refine mv_take _ (Or.inr ⟨by rfl, rfl⟩) (⟨c0, c1, c2, c3, c4, c5⟩) ?_
         simp only [Act.put, List.setIfInBounds_toArray, List.set_cons_zero, List.set_cons_succ])
  refine mv_step (fun K hK => ?_)
  go_simp
  first | rw [hw] | skip
  refine (VL.out _).mono ?_
  rintro e w1 ⟨rfl, hb1⟩
  have hbw := (Below.refl w.heap.size w).drew.trans hb1
  obtain ⟨c0, c1, c2, c3, c4, c5⟩ := RwS.bel (b := b) ⟨c0, c1, c2, c3, c4, c5⟩ HL.out hbw
  clear hb1
  go_wp2_with fail
  refine hK.out _ _ _ (fun u hu => hu) (⟨c0, c1, c2, c3, c4, c5⟩) ?_
  clear hK K
  iterate 2
    first
      | (refine mv_free ?_ (Or.inl ⟨by rfl, ?_⟩) (⟨c0, c1, c2, c3, c4, c5⟩) ?_
         rotate_left 1
         · intro u
           go_simp
           try with_reducible rfl
         simp only [Act.put, List.setIfInBounds_toArray, List.set_cons_zero, List.set_cons_succ])
      | (refine mv_free _ (Or.inr ⟨by rfl, rfl⟩) (⟨c0, c1, c2, c3, c4, c5⟩) ?_
         simp only [Act.put, List.setIfInBounds_toArray, List.set_cons_zero, List.set_cons_succ])
  refine mv_done ?_
  go_wp2
  go_ret
  exact ⟨ret_bool HP.out.symm, hbw⟩

theorem raw_box (w : World) (ga of sl dr v t : Int) : ∃ V, V = ((w.alloc (.cells #[.int .i64 ga, .int .i64 of, .int .i64 sl, .int .i64 dr] 45)).alloc (.cells #[.int .i64 v] 2)).alloc (.cells #[.int .i64 t] 2) ∧ Below w.heap.size w V ∧ V.heap.size = w.heap.size + 3 ∧ RwS w.heap.size ga of sl dr v t V :=
  ⟨_, rfl, (by repeat (first | exact Below.refl _ _ | assumption | apply Below.drew | apply below_drewN | (refine Below.alloc ?_ (by first | exact Nat.le_refl _ | omega | (simp <;> omega)) _) | (refine Below.setCell ?_ (by first | exact Nat.le_refl _ | omega | (simp <;> omega)) _))), by simp, by unfold RwS; exact ⟨by go_simp, by go_simp, by go_simp, by go_simp, by go_simp, by go_simp⟩⟩

theorem craw_search {ga of sl dr : Int} (ok : ClOk ga of sl dr) (b : Nat) (v t : Int) (r : Nat) (hr : r ≤ 16777216) (h1 : ∀ i, i < r → rwP ga of sl dr v t i = false) (h2 : ∀ i, r ≤ i → i < 16777216 → rwP ga of sl dr v t i = true)
    (w : World) (hS : RwS b ga of sl dr v t w) (hlt : b + 2 < w.heap.size) :
    Calls Try.prog 77 #[.int .i64 16777216, .func (.func 78) #[] #[.pointer (some ⟨b, 0, none⟩), .pointer (some ⟨b + 2, 0, none⟩), .pointer (some ⟨b + 1, 0, none⟩)]] w fun e w' => e = .returned (.int .i64 r) ∧ Below w.heap.size w w' :=
  search_any 78 #[.pointer (some ⟨b, 0, none⟩), .pointer (some ⟨b + 2, 0, none⟩), .pointer (some ⟨b + 1, 0, none⟩)] 16777216 r (rwP ga of sl dr v t) w (enters_of Try.func78 (by kernel_rfl) rfl) (by omega) hr h1 h2
    (fun u i hi hb => craw1_any ok b v t i hi u (hS.bel hlt hb) (Nat.lt_of_lt_of_le hlt hb.size))

set_option maxRecDepth 100000 in
set_option maxHeartbeats 4000000 in
theorem craw_ok {ga of sl dr : Int} (h : clR ga of sl dr = true) (v t : Int) (r : Nat) (hr : r ≤ 16777216) (h1 : ∀ i, i < r → rwP ga of sl dr v t i = false) (h2 : ∀ i, r ≤ i → i < 16777216 → rwP ga of sl dr v t i = true) (w : World) :
    Calls Try.prog 49 #[.agg #[.int .i64 ga, .int .i64 of, .int .i64 sl, .int .i64 dr], .int .i64 v, .int .i64 t] w fun e w' => e = .returned (.tuple #[.int .i64 (if r = 16777216 then 0 else -8388608 + r), .bool (!(r == 16777216))]) ∧ Below w.heap.size w w' := by
  have RT := fun u => cright_any ga of sl dr u
  rw [h] at RT
  replace RT := Lib.hid RT
  have SR := Lib.hid (fun b u hS hl => craw_search (clR_ok h) b v t r hr h1 h2 u hS hl)
  clear h h1 h2
  obtain ⟨V, eV, hb0, hz, hS⟩ := raw_box w ga of sl dr v t
  obtain ⟨c0, c1, c2, c3, c4, c5⟩ := hS
  replace hb0 := Lib.hid hb0
  replace hz := Lib.hid hz
  replace eV := Lib.hid eV
  rcases (show r = 16777216 ∨ r < 16777216 by omega) with rfl | hlt
  · rw [if_pos rfl, show (!((16777216 : Nat) == 16777216)) = false by decide]
    clear hr
    go_enter Try.func49, Try.ntmps49
    go_wp2_with fail
    rw [← eV.out]
    go_wp2_with fail
    refine (RT.out _).mono ?_
    rintro e w1 ⟨rfl, hb1⟩
    have hS1 := RwS.bel (b := w.heap.size) (B := V.heap.size) ⟨c0, c1, c2, c3, c4, c5⟩ (by have := hz.out; omega) hb1
    have hz1 := Lib.hid hb1.size
    clear c0 c1 c2 c3 c4 c5
    go_wp2_with fail
    refine (SR.out w.heap.size w1 hS1 (by have := hz.out; have := hz1.out; omega)).mono ?_
    rintro e w2 ⟨rfl, hb2⟩
    go_wp2
    go_ret2
    exact ⟨rfl, (hb0.out.trans (hb1.mono (by have := hz.out; omega))).trans (hb2.mono (by have := hz.out; have := hz1.out; omega))⟩
  · rw [if_neg (by omega), show (!(r == 16777216)) = true by simp; omega]
    have hne : ((r : Int) == 16777216) = false := by simp; omega
    clear hr
    go_enter Try.func49, Try.ntmps49
    go_wp2_with fail
    rw [← eV.out]
    go_wp2_with fail
    refine (RT.out _).mono ?_
    rintro e w1 ⟨rfl, hb1⟩
    have hS1 := RwS.bel (b := w.heap.size) (B := V.heap.size) ⟨c0, c1, c2, c3, c4, c5⟩ (by have := hz.out; omega) hb1
    have hz1 := Lib.hid hb1.size
    clear c0 c1 c2 c3 c4 c5
    go_wp2_with fail
    refine (SR.out w.heap.size w1 hS1 (by have := hz.out; have := hz1.out; omega)).mono ?_
    rintro e w2 ⟨rfl, hb2⟩
    go_wp2
    go_ret2
    exact ⟨rfl, (hb0.out.trans (hb1.mono (by have := hz.out; omega))).trans (hb2.mono (by have := hz.out; have := hz1.out; omega))⟩

set_option maxHeartbeats 2000000 in
theorem craw_no {ga of sl dr : Int} (h : clR ga of sl dr = false) (v t : Int) (w : World) :
    Calls Try.prog 49 #[.agg #[.int .i64 ga, .int .i64 of, .int .i64 sl, .int .i64 dr], .int .i64 v, .int .i64 t] w fun e w' => e = .returned (.tuple #[.int .i64 0, .bool false]) ∧ Below w.heap.size w w' := by
  have RT := fun u => cright_any ga of sl dr u
  rw [h] at RT
  replace RT := Lib.hid RT
  clear h
  obtain ⟨V, eV, hb0, hz, hS⟩ := raw_box w ga of sl dr v t
  obtain ⟨c0, c1, c2, c3, c4, c5⟩ := hS
  replace hb0 := Lib.hid hb0
  replace hz := Lib.hid hz
  replace eV := Lib.hid eV
  go_enter Try.func49, Try.ntmps49
  go_wp2_with fail
  rw [← eV.out]
  go_wp2_with fail
  refine (RT.out _).mono ?_
  rintro e w1 ⟨rfl, hb1⟩
  go_wp2
  go_ret2
  exact ⟨rfl, hb0.out.trans (hb1.mono (by have := hz.out; omega))⟩
end Go.Proofs.Ytnnhgpmpkiblaaa
