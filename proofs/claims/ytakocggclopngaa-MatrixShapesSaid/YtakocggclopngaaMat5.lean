/- Package matrix: Apply, Det; the chapter's example. -/
import Derived.Test.YtakocggclopngaaMat4
namespace Go.Proofs.Ytakocggclopngaa
open Go.ChangeShapes Go.WideShapes Go.ChangeAt Go.RowKit
set_option linter.unusedVariables false
set_option linter.unusedSimpArgs false
def apl (X A : Nat → Int) (t : Nat) : Int := dtI (fun k => X (t * 3 + k)) A
def vC (M : Nat → Int) (n : Nat) : List Value := (List.range 3).map fun t => .int .i64 (if t < n then M t else 0)
theorem vC_len (M : Nat → Int) (n : Nat) : (vC M n).length = 3 := by simp [vC]
theorem vC_set (M : Nat → Int) (n : Nat) (h : n < 3) : (vC M n).set n (.int .i64 (M n)) = vC M (n + 1) := by
  rcases (show n = 0 ∨ n = 1 ∨ n = 2 by omega) with rfl | rfl | rfl <;> rfl
theorem vC_zero (M : Nat → Int) : vC M 0 = [.int .i64 0, .int .i64 0, .int .i64 0] := rfl
theorem vC_all (M : Nat → Int) : vC M 3 = [.int .i64 (M 0), .int .i64 (M 1), .int .i64 (M 2)] := rfl
theorem vC_some (M : Nat → Int) (n t : Nat) (h : t < 3) : ∃ v, (vC M n)[t]? = some v := ⟨_, List.getElem?_eq_getElem (by rw [vC_len]; exact h)⟩
theorem vl_laid {s : Nat} {u : World} {a b c : Value} (h : Held s [a, b, c] u) (X : Nat → Int) : ∃ u9, u9 = (((u.setCell ⟨s, 0, none⟩ (.int .i64 (X 0))).setCell ⟨s, 1, none⟩ (.int .i64 (X 1))).setCell ⟨s, 2, none⟩ (.int .i64 (X 2))) ∧ Held s [.int .i64 (X 0), .int .i64 (X 1), .int .i64 (X 2)] u9 ∧ Below s u u9 :=
  ⟨_, rfl, ((h.set 0 (.int .i64 (X 0)) (by simp)).set 1 (.int .i64 (X 1)) (by simp)).set 2 (.int .i64 (X 2)) (by simp), by repeat (first | exact Below.refl _ _ | (refine Below.setCell ?_ (by exact Nat.le_refl _) _))⟩
theorem mapl_box (w : World) (X A : Nat → Int) : ∃ V, V = ((((w.alloc (.cells #[.int .i64 (X 0), .int .i64 (X 1), .int .i64 (X 2), .int .i64 (X 3), .int .i64 (X 4), .int .i64 (X 5), .int .i64 (X 6), .int .i64 (X 7), .int .i64 (X 8)] 56)).alloc (.cells #[.int .i64 (A 0), .int .i64 (A 1), .int .i64 (A 2)] 65)).alloc (.cells #[.int .i64 0, .int .i64 0, .int .i64 0] 65)).alloc (.cells #[.int .i64 0, .int .i64 0, .int .i64 0] 65)) ∧ Below w.heap.size w V ∧ Held w.heap.size [.int .i64 (X 0), .int .i64 (X 1), .int .i64 (X 2), .int .i64 (X 3), .int .i64 (X 4), .int .i64 (X 5), .int .i64 (X 6), .int .i64 (X 7), .int .i64 (X 8)] V ∧ Held (w.heap.size + 1) [.int .i64 (A 0), .int .i64 (A 1), .int .i64 (A 2)] V ∧ Held (w.heap.size + 2) [.int .i64 0, .int .i64 0, .int .i64 0] V ∧ Held (w.heap.size + 3) [.int .i64 0, .int .i64 0, .int .i64 0] V ∧ V.heap.size = w.heap.size + 4 := by
  refine ⟨_, rfl, (by repeat (first | exact Below.refl _ _ | assumption | apply Below.drew | apply below_drewN | (refine Below.alloc ?_ (by first | exact Nat.le_refl _ | omega | (simp <;> omega)) _) | (refine Below.setCell ?_ (by first | exact Nat.le_refl _ | omega | (simp <;> omega)) _))), ?_, ?_, ?_, ?_, by simp⟩
  · have := ((((Held.new w [.int .i64 (X 0), .int .i64 (X 1), .int .i64 (X 2), .int .i64 (X 3), .int .i64 (X 4), .int .i64 (X 5), .int .i64 (X 6), .int .i64 (X 7), .int .i64 (X 8)] 56).alloc (.cells #[.int .i64 (A 0), .int .i64 (A 1), .int .i64 (A 2)] 65)).alloc (.cells #[.int .i64 0, .int .i64 0, .int .i64 0] 65)).alloc (.cells #[.int .i64 0, .int .i64 0, .int .i64 0] 65))
    simpa using this
  · have := (((Held.new (w.alloc (.cells #[.int .i64 (X 0), .int .i64 (X 1), .int .i64 (X 2), .int .i64 (X 3), .int .i64 (X 4), .int .i64 (X 5), .int .i64 (X 6), .int .i64 (X 7), .int .i64 (X 8)] 56)) [.int .i64 (A 0), .int .i64 (A 1), .int .i64 (A 2)] 65).alloc (.cells #[.int .i64 0, .int .i64 0, .int .i64 0] 65)).alloc (.cells #[.int .i64 0, .int .i64 0, .int .i64 0] 65))
    simpa using this
  · have := ((Held.new ((w.alloc (.cells #[.int .i64 (X 0), .int .i64 (X 1), .int .i64 (X 2), .int .i64 (X 3), .int .i64 (X 4), .int .i64 (X 5), .int .i64 (X 6), .int .i64 (X 7), .int .i64 (X 8)] 56)).alloc (.cells #[.int .i64 (A 0), .int .i64 (A 1), .int .i64 (A 2)] 65)) [.int .i64 0, .int .i64 0, .int .i64 0] 65).alloc (.cells #[.int .i64 0, .int .i64 0, .int .i64 0] 65))
    simpa using this
  · have := (Held.new (((w.alloc (.cells #[.int .i64 (X 0), .int .i64 (X 1), .int .i64 (X 2), .int .i64 (X 3), .int .i64 (X 4), .int .i64 (X 5), .int .i64 (X 6), .int .i64 (X 7), .int .i64 (X 8)] 56)).alloc (.cells #[.int .i64 (A 0), .int .i64 (A 1), .int .i64 (A 2)] 65)).alloc (.cells #[.int .i64 0, .int .i64 0, .int .i64 0] 65)) [.int .i64 0, .int .i64 0, .int .i64 0] 65)
    simpa using this
set_option maxRecDepth 100000 in
set_option maxHeartbeats 8000000 in
theorem mapply (X A : Nat → Int) (w : World) : Calls Try.prog 32 #[.agg #[.int .i64 (X 0), .int .i64 (X 1), .int .i64 (X 2), .int .i64 (X 3), .int .i64 (X 4), .int .i64 (X 5), .int .i64 (X 6), .int .i64 (X 7), .int .i64 (X 8)], .agg #[.int .i64 (A 0), .int .i64 (A 1), .int .i64 (A 2)]] w fun e w' => e = .returned (.agg #[.int .i64 ((apl X A) 0), .int .i64 ((apl X A) 1), .int .i64 ((apl X A) 2)]) ∧ Below w.heap.size w w' := by
  obtain ⟨V, eV, hb0, hX, hA, hR, hM, hz⟩ := mapl_box w X A
  have S0 := Lib.hid (show Held w.heap.size [.int .i64 (X 0), .int .i64 (X 1), .int .i64 (X 2), .int .i64 (X 3), .int .i64 (X 4), .int .i64 (X 5), .int .i64 (X 6), .int .i64 (X 7), .int .i64 (X 8)] V ∧ Held (w.heap.size + 1) [.int .i64 (A 0), .int .i64 (A 1), .int .i64 (A 2)] V ∧ Held (w.heap.size + 2) [.int .i64 0, .int .i64 0, .int .i64 0] V ∧ Held (w.heap.size + 3) (vC (apl X A) 0) V ∧ Below w.heap.size w V from ⟨hX, hA, hR, by rw [vC_zero]; exact hM, hb0⟩)
  have MD0 := Lib.hid (fun k u => mdot (fun t => X (k * 3 + t)) A u)
  replace eV := Lib.hid eV
  clear hX hA hR hM hb0 hz
  go_enter Try.func32, Try.ntmps32
  go_upto_region 2 with (fail)
  rw [← eV.out]
  go_wp2_with fail
  go_loopw [7] (fun i u => ∃ k : Nat, k ≤ 3 ∧ i = .int .i64 (k : Int) ∧ Hid (Held w.heap.size [.int .i64 (X 0), .int .i64 (X 1), .int .i64 (X 2), .int .i64 (X 3), .int .i64 (X 4), .int .i64 (X 5), .int .i64 (X 6), .int .i64 (X 7), .int .i64 (X 8)] u ∧ Held (w.heap.size + 1) [.int .i64 (A 0), .int .i64 (A 1), .int .i64 (A 2)] u ∧ Held (w.heap.size + 2) [.int .i64 0, .int .i64 0, .int .i64 0] u ∧ Held (w.heap.size + 3) (vC (apl X A) k) u ∧ Below w.heap.size w u)) (fun i _ => 3 - (intOf i).toNat)
  case atStart => exact ⟨0, by omega, rfl, S0⟩
  case round =>
    clear S0
    obtain ⟨k, hk, rfl, S⟩ := hrel
    by_cases hlt : k < 3
    · have hk3 : (k : Int) < 3 := by omega
      obtain ⟨hX, hA, hR, hM, hb⟩ := S.out
      have k0 := ml_at hX (k := k * 3) (by omega)
      have k1 := ml_at hX (k := k * 3 + 1) (by omega)
      have k2 := ml_at hX (k := k * 3 + 2) (by omega)
      have a0 := vl_at hA (k := 0) (by omega)
      have a1 := vl_at hA (k := 1) (by omega)
      have a2 := vl_at hA (k := 2) (by omega)
      have st := Lib.hid (vC_set (apl X A) k hlt)
      have MD := MD0.out k
      rw [show dtI (fun t => X (k * 3 + t)) A = apl X A k from rfl] at MD
      simp only [Nat.add_zero] at MD
      generalize X (k * 3) = x0 at k0 MD
      generalize X (k * 3 + 1) = x1 at k1 MD
      generalize X (k * 3 + 2) = x2 at k2 MD
      generalize apl X A k = y at st MD
      replace MD := Lib.hid MD
      have SS := Lib.hid S.out
      have l3 := hM.lt
      clear S hX hA hR hM hb
      go_wp2_with fail
      refine region_moves (fun u => u.cell? ⟨w.heap.size, k * 3, none⟩ = some (.int .i64 x0) ∧ u.cell? ⟨w.heap.size, k * 3 + 1, none⟩ = some (.int .i64 x1) ∧ u.cell? ⟨w.heap.size, k * 3 + 2, none⟩ = some (.int .i64 x2) ∧ u.cell? ⟨w.heap.size + 1, 0, none⟩ = some (.int .i64 (A 0)) ∧ u.cell? ⟨w.heap.size + 1, 1, none⟩ = some (.int .i64 (A 1)) ∧ u.cell? ⟨w.heap.size + 1, 2, none⟩ = some (.int .i64 (A 2))) [(7, [(6, 7), (5, 7), (0, 7), (1, 7), (2, 7), (3, 7), (4, 7)])] [(.free, 0), (.free, 1), (.free, 2), (.take, 3), (.take, 4), (.step, 5), (.free, 6), (.late, 7)] _ (by kernel_rfl) (by kernel_rfl) (by kernel_rfl) (by kernel_rfl) (by decide) rfl (fun _ _ _ _ _ h => h) ?_
      simp only [List.filterMap_cons, List.filterMap_nil, List.getElem?_toArray, List.getElem?_cons_zero, List.getElem?_cons_succ, Option.map_some]
      iterate 3
        first
          | (refine mv_free ?_ (Or.inl ⟨by rfl, ?_⟩) (⟨k0, k1, k2, a0, a1, a2⟩) ?_
             rotate_left 1
             · intro u
               go_simp
               try simp only [d1]
               try simp only [d2]
               try simp only [d3]
               try with_reducible rfl
             simp only [Act.put, List.setIfInBounds_toArray, List.set_cons_zero, List.set_cons_succ])
          | (refine mv_free _ (Or.inr ⟨by rfl, rfl⟩) (⟨k0, k1, k2, a0, a1, a2⟩) ?_
             simp only [Act.put, List.setIfInBounds_toArray, List.set_cons_zero, List.set_cons_succ])
      iterate 2
        first
          | (refine mv_take ?_ (Or.inl ⟨by rfl, ?_⟩) (⟨k0, k1, k2, a0, a1, a2⟩) ?_
             rotate_left 1
             · intro u hu
               (try dsimp only at hu)
               go_simp
               try with_reducible rfl
             simp only [Act.put, List.setIfInBounds_toArray, List.set_cons_zero, List.set_cons_succ])
          | (refine mv_take _ (Or.inr ⟨by rfl, rfl⟩) (⟨k0, k1, k2, a0, a1, a2⟩) ?_
             simp only [Act.put, List.setIfInBounds_toArray, List.set_cons_zero, List.set_cons_succ])
      refine mv_step (fun K hK => ?_)
      go_simp
      refine (MD.out _).mono ?_
      rintro e w1 ⟨rfl, hb1⟩
      obtain ⟨hX, hA, hR, hM, hb⟩ := SS.out
      have hX1 := hX.drew.bel hb1
      have hA1 := hA.drew.bel hb1
      have hR1 := hR.drew.bel hb1
      have hM1 := hM.drew.bel hb1
      have hB1 := hb.drew.trans (hb1.mono hb.size)
      obtain ⟨v0, hv0⟩ := vC_some (apl X A) k k hlt
      replace k0 := (bc hb1 (b := w.heap.size) (show w.heap.size < wr.heap.size by omega)).trans k0
      replace k1 := (bc hb1 (b := w.heap.size) (show w.heap.size < wr.heap.size by omega)).trans k1
      replace k2 := (bc hb1 (b := w.heap.size) (show w.heap.size < wr.heap.size by omega)).trans k2
      replace a0 := (bc hb1 (b := w.heap.size + 1) (show w.heap.size + 1 < wr.heap.size by omega)).trans a0
      replace a1 := (bc hb1 (b := w.heap.size + 1) (show w.heap.size + 1 < wr.heap.size by omega)).trans a1
      replace a2 := (bc hb1 (b := w.heap.size + 1) (show w.heap.size + 1 < wr.heap.size by omega)).trans a2
      have ck := hM1.c k _ hv0
      have fk := hM1.f k (by rw [vC_len]; omega)
      have S2 := Lib.hid (show Held w.heap.size [.int .i64 (X 0), .int .i64 (X 1), .int .i64 (X 2), .int .i64 (X 3), .int .i64 (X 4), .int .i64 (X 5), .int .i64 (X 6), .int .i64 (X 7), .int .i64 (X 8)] (w1.setCell ⟨w.heap.size + 3, k, none⟩ (.int .i64 y)) ∧ Held (w.heap.size + 1) [.int .i64 (A 0), .int .i64 (A 1), .int .i64 (A 2)] (w1.setCell ⟨w.heap.size + 3, k, none⟩ (.int .i64 y)) ∧ Held (w.heap.size + 2) [.int .i64 0, .int .i64 0, .int .i64 0] (w1.setCell ⟨w.heap.size + 3, k, none⟩ (.int .i64 y)) ∧ Held (w.heap.size + 3) (vC (apl X A) (k + 1)) (w1.setCell ⟨w.heap.size + 3, k, none⟩ (.int .i64 y)) ∧ Below w.heap.size w (w1.setCell ⟨w.heap.size + 3, k, none⟩ (.int .i64 y)) from
        ⟨hX1.only ((Only.refl (w.heap.size + 3) w1).setCell (p := ⟨w.heap.size + 3, k, none⟩) _) (show w.heap.size ≠ w.heap.size + 3 by omega), hA1.only ((Only.refl (w.heap.size + 3) w1).setCell (p := ⟨w.heap.size + 3, k, none⟩) _) (show w.heap.size + 1 ≠ w.heap.size + 3 by omega), hR1.only ((Only.refl (w.heap.size + 3) w1).setCell (p := ⟨w.heap.size + 3, k, none⟩) _) (show w.heap.size + 2 ≠ w.heap.size + 3 by omega), st.out ▸ hM1.set k (.int .i64 y) (by rw [vC_len]; omega), hB1.setCell (by show w.heap.size ≤ w.heap.size + 3; omega) _⟩)
      clear hX hA hR hM hb hX1 hA1 hR1 hM1 hB1 hb1 SS MD hv0 st
      go_wp2_with fail
      refine hK.out _ _ _ (fun u hu => hu) (⟨k0, k1, k2, a0, a1, a2⟩) ?_
      clear hK K
      iterate 1
        first
          | (refine mv_free ?_ (Or.inl ⟨by rfl, ?_⟩) (⟨k0, k1, k2, a0, a1, a2⟩) ?_
             rotate_left 1
             · intro u
               go_simp
               try simp only [d1]
               try simp only [d2]
               try simp only [d3]
               try with_reducible rfl
             simp only [Act.put, List.setIfInBounds_toArray, List.set_cons_zero, List.set_cons_succ])
          | (refine mv_free _ (Or.inr ⟨by rfl, rfl⟩) (⟨k0, k1, k2, a0, a1, a2⟩) ?_
             simp only [Act.put, List.setIfInBounds_toArray, List.set_cons_zero, List.set_cons_succ])
      refine mv_late (fun K hK => ?_)
      go_simp
      refine hK.out (fun _ => True) _ _ ?_
      clear hK K
      refine mv_done ?_
      generalize w1.setCell ⟨w.heap.size + 3, k, none⟩ (.int .i64 y) = w2 at *
      go_wp2
      go_roundw
      case rel => exact ⟨k + 1, by omega, by go_num, S2⟩
      case measure => simp [intOf]; omega
    · obtain rfl : k = 3 := by omega
      obtain ⟨hX, hA, hR, hM, hb⟩ := S.out
      rw [vC_all] at hM
      obtain ⟨u9, e9, h9, b9⟩ := vl_laid hR (apl X A)
      have hb9 := Lib.hid (hb.trans (b9.mono (by omega)))
      replace e9 := Lib.hid e9
      obtain ⟨p0, q0⟩ := hR.one 0 rfl
      obtain ⟨p1, q1⟩ := hR.one 1 rfl
      obtain ⟨p2, q2⟩ := hR.one 2 rfl
      obtain ⟨c0, f0⟩ := hM.one 0 rfl
      obtain ⟨c1, f1⟩ := hM.one 1 rfl
      obtain ⟨c2, f2⟩ := hM.one 2 rfl
      clear S hX hA hR hM hb b9 MD0
      go_wp2
      rw [← e9.out]
      obtain ⟨y0, z0⟩ := h9.one 0 rfl
      obtain ⟨y1, z1⟩ := h9.one 1 rfl
      obtain ⟨y2, z2⟩ := h9.one 2 rfl
      exact bodyPost_ret (v := .agg #[.int .i64 ((apl X A) 0), .int .i64 ((apl X A) 1), .int .i64 ((apl X A) 2)]) (by simp [results, Try.results32, go_sem, y0, y1, y2]) rfl ⟨rfl, hb9.out⟩
def mnr (X : Nat → Int) (i j : Nat) : Int := clp (prd (X (3 + i)) (X (6 + j)) - prd (X (3 + j)) (X (6 + i)))
def mnv (X : Nat → Int) : Nat → Int
  | 0 => mnr X 1 2
  | 1 => mnr X 2 0
  | _ + 2 => mnr X 0 1
theorem mnv0 (X : Nat → Int) : mnv X 0 = mnr X 1 2 := rfl
theorem mnv1 (X : Nat → Int) : mnv X 1 = mnr X 2 0 := rfl
theorem mnv2 (X : Nat → Int) : mnv X 2 = mnr X 0 1 := rfl
def det (X : Nat → Int) : Int := dtI X (mnv X)
set_option maxRecDepth 100000 in
set_option maxHeartbeats 8000000 in
theorem mdet1 (p : Nat) (X : Nat → Int) (i j : Nat) (u : World) (hi : i < 3) (hj : j < 3) (h : Held p [.int .i64 (X 0), .int .i64 (X 1), .int .i64 (X 2), .int .i64 (X 3), .int .i64 (X 4), .int .i64 (X 5), .int .i64 (X 6), .int .i64 (X 7), .int .i64 (X 8)] u) : Calls Try.prog 93 #[.int .i64 (i : Int), .int .i64 (j : Int), .pointer (some ⟨p, 0, none⟩)] u fun e u' => e = .returned (.int .i64 (mnr X i j)) ∧ Below u.heap.size u u' := by
  have k0 := ml_at h (k := 3 + i) (by omega)
  have k1 := ml_at h (k := 6 + j) (by omega)
  have k2 := ml_at h (k := 3 + j) (by omega)
  have k3 := ml_at h (k := 6 + i) (by omega)
  have hi3 : (i : Int) < 3 := by omega
  have hj3 : (j : Int) < 3 := by omega
  have hl := h.lt
  have e1 := prd_bd (X (3 + i)) (X (6 + j))
  have e2 := prd_bd (X (3 + j)) (X (6 + i))
  have P1 := Lib.hid (fun v => mproduct (X (3 + i)) (X (6 + j)) v)
  have P2 := Lib.hid (fun v => mproduct (X (3 + j)) (X (6 + i)) v)
  have P3 := Lib.hid (fun v => mclip (prd (X (3 + i)) (X (6 + j)) - prd (X (3 + j)) (X (6 + i))) v)
  unfold mnr
  generalize prd (X (3 + i)) (X (6 + j)) = r at *
  generalize prd (X (3 + j)) (X (6 + i)) = s at *
  have z1 : IntKind.i64.wrap (r - s) = r - s := by rw [IntKind.wrap_i64]; omega
  generalize clp (r - s) = t at *
  generalize X (3 + i) = x0 at *
  generalize X (6 + j) = x1 at *
  generalize X (3 + j) = x2 at *
  generalize X (6 + i) = x3 at *
  clear h
  go_enter Try.func93, Try.ntmps93
  go_wp2_with fail
  refine region_moves (fun v => v.cell? ⟨p, 3 + i, none⟩ = some (.int .i64 x0) ∧ v.cell? ⟨p, 6 + j, none⟩ = some (.int .i64 x1) ∧ v.cell? ⟨p, 3 + j, none⟩ = some (.int .i64 x2) ∧ v.cell? ⟨p, 6 + i, none⟩ = some (.int .i64 x3)) [] [(.free, 0), (.free, 1), (.free, 2), (.take, 3), (.free, 4), (.free, 5), (.free, 6), (.take, 7), (.free, 9), (.free, 10), (.free, 11), (.take, 12), (.free, 13), (.free, 14), (.free, 15), (.take, 16), (.step, 8), (.step, 17), (.free, 18), (.step, 19), (.free, 20)] _ (by kernel_rfl) (by kernel_rfl) (by kernel_rfl) (by kernel_rfl) (by decide) rfl (fun _ _ _ _ _ h => h) ?_
  simp only [List.filterMap_cons, List.filterMap_nil, List.getElem?_toArray, List.getElem?_cons_zero, List.getElem?_cons_succ, Option.map_some]
  iterate 3
    first
      | (refine mv_free ?_ (Or.inl ⟨by rfl, ?_⟩) (⟨k0, k1, k2, k3⟩) ?_
         rotate_left 1
         · intro u
           go_simp
           try simp only [d1]
           try simp only [d2]
           try simp only [d3]
           try with_reducible rfl
         simp only [Act.put, List.setIfInBounds_toArray, List.set_cons_zero, List.set_cons_succ])
      | (refine mv_free _ (Or.inr ⟨by rfl, rfl⟩) (⟨k0, k1, k2, k3⟩) ?_
         simp only [Act.put, List.setIfInBounds_toArray, List.set_cons_zero, List.set_cons_succ])
  iterate 1
    first
      | (refine mv_take ?_ (Or.inl ⟨by rfl, ?_⟩) (⟨k0, k1, k2, k3⟩) ?_
         rotate_left 1
         · intro u hu
           (try dsimp only at hu)
           go_simp
           try with_reducible rfl
         simp only [Act.put, List.setIfInBounds_toArray, List.set_cons_zero, List.set_cons_succ])
      | (refine mv_take _ (Or.inr ⟨by rfl, rfl⟩) (⟨k0, k1, k2, k3⟩) ?_
         simp only [Act.put, List.setIfInBounds_toArray, List.set_cons_zero, List.set_cons_succ])
  iterate 3
    first
      | (refine mv_free ?_ (Or.inl ⟨by rfl, ?_⟩) (⟨k0, k1, k2, k3⟩) ?_
         rotate_left 1
         · intro u
           go_simp
           try simp only [d1]
           try simp only [d2]
           try simp only [d3]
           try with_reducible rfl
         simp only [Act.put, List.setIfInBounds_toArray, List.set_cons_zero, List.set_cons_succ])
      | (refine mv_free _ (Or.inr ⟨by rfl, rfl⟩) (⟨k0, k1, k2, k3⟩) ?_
         simp only [Act.put, List.setIfInBounds_toArray, List.set_cons_zero, List.set_cons_succ])
  iterate 1
    first
      | (refine mv_take ?_ (Or.inl ⟨by rfl, ?_⟩) (⟨k0, k1, k2, k3⟩) ?_
         rotate_left 1
         · intro u hu
           (try dsimp only at hu)
           go_simp
           try with_reducible rfl
         simp only [Act.put, List.setIfInBounds_toArray, List.set_cons_zero, List.set_cons_succ])
      | (refine mv_take _ (Or.inr ⟨by rfl, rfl⟩) (⟨k0, k1, k2, k3⟩) ?_
         simp only [Act.put, List.setIfInBounds_toArray, List.set_cons_zero, List.set_cons_succ])
  iterate 3
    first
      | (refine mv_free ?_ (Or.inl ⟨by rfl, ?_⟩) (⟨k0, k1, k2, k3⟩) ?_
         rotate_left 1
         · intro u
           go_simp
           try simp only [d1]
           try simp only [d2]
           try simp only [d3]
           try with_reducible rfl
         simp only [Act.put, List.setIfInBounds_toArray, List.set_cons_zero, List.set_cons_succ])
      | (refine mv_free _ (Or.inr ⟨by rfl, rfl⟩) (⟨k0, k1, k2, k3⟩) ?_
         simp only [Act.put, List.setIfInBounds_toArray, List.set_cons_zero, List.set_cons_succ])
  iterate 1
    first
      | (refine mv_take ?_ (Or.inl ⟨by rfl, ?_⟩) (⟨k0, k1, k2, k3⟩) ?_
         rotate_left 1
         · intro u hu
           (try dsimp only at hu)
           go_simp
           try with_reducible rfl
         simp only [Act.put, List.setIfInBounds_toArray, List.set_cons_zero, List.set_cons_succ])
      | (refine mv_take _ (Or.inr ⟨by rfl, rfl⟩) (⟨k0, k1, k2, k3⟩) ?_
         simp only [Act.put, List.setIfInBounds_toArray, List.set_cons_zero, List.set_cons_succ])
  iterate 3
    first
      | (refine mv_free ?_ (Or.inl ⟨by rfl, ?_⟩) (⟨k0, k1, k2, k3⟩) ?_
         rotate_left 1
         · intro u
           go_simp
           try simp only [d1]
           try simp only [d2]
           try simp only [d3]
           try with_reducible rfl
         simp only [Act.put, List.setIfInBounds_toArray, List.set_cons_zero, List.set_cons_succ])
      | (refine mv_free _ (Or.inr ⟨by rfl, rfl⟩) (⟨k0, k1, k2, k3⟩) ?_
         simp only [Act.put, List.setIfInBounds_toArray, List.set_cons_zero, List.set_cons_succ])
  iterate 1
    first
      | (refine mv_take ?_ (Or.inl ⟨by rfl, ?_⟩) (⟨k0, k1, k2, k3⟩) ?_
         rotate_left 1
         · intro u hu
           (try dsimp only at hu)
           go_simp
           try with_reducible rfl
         simp only [Act.put, List.setIfInBounds_toArray, List.set_cons_zero, List.set_cons_succ])
      | (refine mv_take _ (Or.inr ⟨by rfl, rfl⟩) (⟨k0, k1, k2, k3⟩) ?_
         simp only [Act.put, List.setIfInBounds_toArray, List.set_cons_zero, List.set_cons_succ])
  refine mv_step (fun K hK => ?_)
  go_simp
  refine (P1.out _).mono ?_
  rintro e w1 ⟨rfl, hb1⟩
  have hb2 := (Below.refl u.heap.size u).drew.trans hb1
  replace k0 := (bc hb2 hl).trans k0
  replace k1 := (bc hb2 hl).trans k1
  replace k2 := (bc hb2 hl).trans k2
  replace k3 := (bc hb2 hl).trans k3
  clear hb1
  go_wp2_with fail
  refine hK.out _ _ _ (fun u hu => hu) (⟨k0, k1, k2, k3⟩) ?_
  clear hK K
  refine mv_step (fun K hK => ?_)
  go_simp
  refine (P2.out _).mono ?_
  rintro e w2 ⟨rfl, hb3⟩
  have hb4 := hb2.trans (hb3.mono hb2.size)
  replace k0 := (bc hb3 (Nat.lt_of_lt_of_le hl hb2.size)).trans k0
  replace k1 := (bc hb3 (Nat.lt_of_lt_of_le hl hb2.size)).trans k1
  replace k2 := (bc hb3 (Nat.lt_of_lt_of_le hl hb2.size)).trans k2
  replace k3 := (bc hb3 (Nat.lt_of_lt_of_le hl hb2.size)).trans k3
  clear hb3 hb2
  go_wp2_with fail
  refine hK.out _ _ _ (fun u hu => hu) (⟨k0, k1, k2, k3⟩) ?_
  clear hK K
  iterate 1
    first
      | (refine mv_free ?_ (Or.inl ⟨by rfl, ?_⟩) (⟨k0, k1, k2, k3⟩) ?_
         rotate_left 1
         · intro u
           go_simp
           try simp only [d1]
           try simp only [d2]
           try simp only [d3]
           try with_reducible rfl
         simp only [Act.put, List.setIfInBounds_toArray, List.set_cons_zero, List.set_cons_succ])
      | (refine mv_free _ (Or.inr ⟨by rfl, rfl⟩) (⟨k0, k1, k2, k3⟩) ?_
         simp only [Act.put, List.setIfInBounds_toArray, List.set_cons_zero, List.set_cons_succ])
  refine mv_step (fun K hK => ?_)
  go_simp
  refine (P3.out _).mono ?_
  rintro e w' ⟨rfl, rfl⟩
  go_wp2_with fail
  refine hK.out _ _ _ (fun u hu => hu) (⟨k0, k1, k2, k3⟩) ?_
  clear hK K
  iterate 1
    first
      | (refine mv_free ?_ (Or.inl ⟨by rfl, ?_⟩) (⟨k0, k1, k2, k3⟩) ?_
         rotate_left 1
         · intro u
           go_simp
           try simp only [d1]
           try simp only [d2]
           try simp only [d3]
           try with_reducible rfl
         simp only [Act.put, List.setIfInBounds_toArray, List.set_cons_zero, List.set_cons_succ])
      | (refine mv_free _ (Or.inr ⟨by rfl, rfl⟩) (⟨k0, k1, k2, k3⟩) ?_
         simp only [Act.put, List.setIfInBounds_toArray, List.set_cons_zero, List.set_cons_succ])
  refine mv_done ?_
  go_wp2
  go_ret
  exact ⟨rfl, hb4⟩
set_option maxRecDepth 100000 in
set_option maxHeartbeats 8000000 in
theorem mdet (X : Nat → Int) (w : World) : Calls Try.prog 40 #[.agg #[.int .i64 (X 0), .int .i64 (X 1), .int .i64 (X 2), .int .i64 (X 3), .int .i64 (X 4), .int .i64 (X 5), .int .i64 (X 6), .int .i64 (X 7), .int .i64 (X 8)]] w fun e w' => e = .returned (.int .i64 (det X)) ∧ Below w.heap.size w w' := by
  obtain ⟨V, eV, hb0, hX, hz⟩ := msym_box w X
  have D1 := Lib.hid (fun u (h : Held w.heap.size [.int .i64 (X 0), .int .i64 (X 1), .int .i64 (X 2), .int .i64 (X 3), .int .i64 (X 4), .int .i64 (X 5), .int .i64 (X 6), .int .i64 (X 7), .int .i64 (X 8)] u) => show Calls Try.prog 93 #[.int .i64 1, .int .i64 2, .pointer (some ⟨w.heap.size, 0, none⟩)] u fun e u' => e = .returned (.int .i64 (mnr X 1 2)) ∧ Below u.heap.size u u' from mdet1 w.heap.size X 1 2 u (by omega) (by omega) h)
  have D2 := Lib.hid (fun u (h : Held w.heap.size [.int .i64 (X 0), .int .i64 (X 1), .int .i64 (X 2), .int .i64 (X 3), .int .i64 (X 4), .int .i64 (X 5), .int .i64 (X 6), .int .i64 (X 7), .int .i64 (X 8)] u) => show Calls Try.prog 93 #[.int .i64 2, .int .i64 0, .pointer (some ⟨w.heap.size, 0, none⟩)] u fun e u' => e = .returned (.int .i64 (mnr X 2 0)) ∧ Below u.heap.size u u' from mdet1 w.heap.size X 2 0 u (by omega) (by omega) h)
  have D3 := Lib.hid (fun u (h : Held w.heap.size [.int .i64 (X 0), .int .i64 (X 1), .int .i64 (X 2), .int .i64 (X 3), .int .i64 (X 4), .int .i64 (X 5), .int .i64 (X 6), .int .i64 (X 7), .int .i64 (X 8)] u) => show Calls Try.prog 93 #[.int .i64 0, .int .i64 1, .pointer (some ⟨w.heap.size, 0, none⟩)] u fun e u' => e = .returned (.int .i64 (mnr X 0 1)) ∧ Below u.heap.size u u' from mdet1 w.heap.size X 0 1 u (by omega) (by omega) h)
  have MD := fun u => mdot X (mnv X) u
  rw [show dtI X (mnv X) = det X from rfl] at MD
  simp only [mnv0, mnv1, mnv2] at MD
  replace MD := Lib.hid MD
  generalize mnr X 1 2 = m0 at *
  generalize mnr X 2 0 = m1 at *
  generalize mnr X 0 1 = m2 at *
  generalize det X = d at *
  have hXX := Lib.hid hX
  have c0 := hX.c 0 _ rfl
  have c1 := hX.c 1 _ rfl
  have c2 := hX.c 2 _ rfl
  replace eV := Lib.hid eV
  replace hz := Lib.hid hz
  replace hb0 := Lib.hid hb0
  clear hX
  go_enter Try.func40, Try.ntmps40
  go_upto_region 1 with (fail)
  rw [← eV.out]
  go_wp2_with fail
  refine region_moves (fun v => v.cell? ⟨w.heap.size, 0, none⟩ = some (.int .i64 (X 0)) ∧ v.cell? ⟨w.heap.size, 1, none⟩ = some (.int .i64 (X 1)) ∧ v.cell? ⟨w.heap.size, 2, none⟩ = some (.int .i64 (X 2))) [] [(.free, 0), (.take, 1), (.free, 2), (.free, 4), (.free, 6), (.step, 3), (.step, 5), (.step, 7), (.free, 8), (.step, 9), (.free, 10)] _ (by kernel_rfl) (by kernel_rfl) (by kernel_rfl) (by kernel_rfl) (by decide) rfl (fun _ _ _ _ _ h => h) ?_
  simp only [List.filterMap_cons, List.filterMap_nil, List.getElem?_toArray, List.getElem?_cons_zero, List.getElem?_cons_succ, Option.map_some]
  iterate 1
    first
      | (refine mv_free ?_ (Or.inl ⟨by rfl, ?_⟩) (⟨c0, c1, c2⟩) ?_
         rotate_left 1
         · intro u
           go_simp
           try simp only [d1]
           try simp only [d2]
           try simp only [d3]
           try with_reducible rfl
         simp only [Act.put, List.setIfInBounds_toArray, List.set_cons_zero, List.set_cons_succ])
      | (refine mv_free _ (Or.inr ⟨by rfl, rfl⟩) (⟨c0, c1, c2⟩) ?_
         simp only [Act.put, List.setIfInBounds_toArray, List.set_cons_zero, List.set_cons_succ])
  iterate 1
    first
      | (refine mv_take ?_ (Or.inl ⟨by rfl, ?_⟩) (⟨c0, c1, c2⟩) ?_
         rotate_left 1
         · intro u hu
           (try dsimp only at hu)
           go_simp
           try with_reducible rfl
         simp only [Act.put, List.setIfInBounds_toArray, List.set_cons_zero, List.set_cons_succ])
      | (refine mv_take _ (Or.inr ⟨by rfl, rfl⟩) (⟨c0, c1, c2⟩) ?_
         simp only [Act.put, List.setIfInBounds_toArray, List.set_cons_zero, List.set_cons_succ])
  iterate 3
    first
      | (refine mv_free ?_ (Or.inl ⟨by rfl, ?_⟩) (⟨c0, c1, c2⟩) ?_
         rotate_left 1
         · intro u
           go_simp
           try simp only [d1]
           try simp only [d2]
           try simp only [d3]
           try with_reducible rfl
         simp only [Act.put, List.setIfInBounds_toArray, List.set_cons_zero, List.set_cons_succ])
      | (refine mv_free _ (Or.inr ⟨by rfl, rfl⟩) (⟨c0, c1, c2⟩) ?_
         simp only [Act.put, List.setIfInBounds_toArray, List.set_cons_zero, List.set_cons_succ])
  refine mv_step (fun K hK => ?_)
  go_simp
  refine (D1.out _ hXX.out.drew).mono ?_
  rintro e w1 ⟨rfl, hb1⟩
  have hX1 := Lib.hid (hXX.out.drew.bel hb1)
  have hB1 := Lib.hid (hb0.out.drew.trans (hb1.mono hb0.out.size))
  replace c0 := hX1.out.c 0 _ rfl
  replace c1 := hX1.out.c 1 _ rfl
  replace c2 := hX1.out.c 2 _ rfl
  clear hb1
  go_wp2_with fail
  refine hK.out _ _ _ (fun u hu => hu) (⟨c0, c1, c2⟩) ?_
  clear hK K
  refine mv_step (fun K hK => ?_)
  go_simp
  refine (D2.out _ hX1.out).mono ?_
  rintro e w2 ⟨rfl, hb2⟩
  have hX2 := Lib.hid (hX1.out.bel hb2)
  have hB2 := Lib.hid (hB1.out.trans (hb2.mono hB1.out.size))
  replace c0 := hX2.out.c 0 _ rfl
  replace c1 := hX2.out.c 1 _ rfl
  replace c2 := hX2.out.c 2 _ rfl
  clear hb2
  go_wp2_with fail
  refine hK.out _ _ _ (fun u hu => hu) (⟨c0, c1, c2⟩) ?_
  clear hK K
  refine mv_step (fun K hK => ?_)
  go_simp
  refine (D3.out _ hX2.out).mono ?_
  rintro e w3 ⟨rfl, hb3⟩
  have hX3 := Lib.hid (hX2.out.bel hb3)
  have hB3 := Lib.hid (hB2.out.trans (hb3.mono hB2.out.size))
  replace c0 := hX3.out.c 0 _ rfl
  replace c1 := hX3.out.c 1 _ rfl
  replace c2 := hX3.out.c 2 _ rfl
  clear hb3
  go_wp2_with fail
  refine hK.out _ _ _ (fun u hu => hu) (⟨c0, c1, c2⟩) ?_
  clear hK K
  iterate 1
    first
      | (refine mv_free ?_ (Or.inl ⟨by rfl, ?_⟩) (⟨c0, c1, c2⟩) ?_
         rotate_left 1
         · intro u
           go_simp
           try simp only [d1]
           try simp only [d2]
           try simp only [d3]
           try with_reducible rfl
         simp only [Act.put, List.setIfInBounds_toArray, List.set_cons_zero, List.set_cons_succ])
      | (refine mv_free _ (Or.inr ⟨by rfl, rfl⟩) (⟨c0, c1, c2⟩) ?_
         simp only [Act.put, List.setIfInBounds_toArray, List.set_cons_zero, List.set_cons_succ])
  refine mv_step (fun K hK => ?_)
  go_simp
  refine (MD.out _).mono ?_
  rintro e w4 ⟨rfl, hb4⟩
  have hX4 := Lib.hid (hX3.out.bel hb4)
  have hB4 := Lib.hid (hB3.out.trans (hb4.mono hB3.out.size))
  replace c0 := hX4.out.c 0 _ rfl
  replace c1 := hX4.out.c 1 _ rfl
  replace c2 := hX4.out.c 2 _ rfl
  clear hb4
  go_wp2_with fail
  refine hK.out _ _ _ (fun u hu => hu) (⟨c0, c1, c2⟩) ?_
  clear hK K
  iterate 1
    first
      | (refine mv_free ?_ (Or.inl ⟨by rfl, ?_⟩) (⟨c0, c1, c2⟩) ?_
         rotate_left 1
         · intro u
           go_simp
           try simp only [d1]
           try simp only [d2]
           try simp only [d3]
           try with_reducible rfl
         simp only [Act.put, List.setIfInBounds_toArray, List.set_cons_zero, List.set_cons_succ])
      | (refine mv_free _ (Or.inr ⟨by rfl, rfl⟩) (⟨c0, c1, c2⟩) ?_
         simp only [Act.put, List.setIfInBounds_toArray, List.set_cons_zero, List.set_cons_succ])
  refine mv_done ?_
  go_wp2
  go_ret
  exact ⟨rfl, hB4.out⟩
theorem mdot' (a0 a1 a2 b0 b1 b2 : Int) (w : World) : Calls Try.prog 37 #[.agg #[.int .i64 a0, .int .i64 a1, .int .i64 a2], .agg #[.int .i64 b0, .int .i64 b1, .int .i64 b2]] w fun e w' => e = .returned (.int .i64 (clp (prd a0 b0 + prd a1 b1 + prd a2 b2))) ∧ Below w.heap.size w w' :=
  mdot (fun t => match t with | 0 => a0 | 1 => a1 | _ => a2) (fun t => match t with | 0 => b0 | 1 => b1 | _ => b2) w
set_option maxRecDepth 100000 in
set_option maxHeartbeats 8000000 in
theorem lives40 (w : World) : Calls Try.prog 31 #[] w fun e w' => e = .returned (.bool true) ∧ Below w.heap.size w w' := by
  have MD2 := fun u => mdot' 2097152 0 0 3145728 0 0 u
  rw [prd_zero, show prd 2097152 3145728 = 6291456 by
    rw [prd_is, show clp 2097152 = 2097152 by unfold clp; omega, show clp 3145728 = 3145728 by unfold clp; omega]
    unfold clv
    omega, show clp (6291456 + 0 + 0) = 6291456 by unfold clp; omega] at MD2
  replace MD2 := Lib.hid MD2
  go_enter Try.func31, Try.ntmps31
  go_wp2_with fail
  refine (MD2.out _).mono ?_
  rintro e w1 ⟨rfl, hb1⟩
  go_wp2
  go_ret
  exact ⟨rfl, hb1⟩
end Go.Proofs.Ytakocggclopngaa
