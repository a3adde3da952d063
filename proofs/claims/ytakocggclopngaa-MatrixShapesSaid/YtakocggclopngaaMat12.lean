/- The document's Mul. -/
import Derived.Test.YtakocggclopngaaMat9
namespace Go.Proofs.Ytakocggclopngaa
open Go.ChangeShapes Go.WideShapes Go.ChangeAt Go.RowKit
set_option linter.unusedVariables false
set_option linter.unusedSimpArgs false
theorem rmu_box (w : World) (A B : Nat → Int) : ∃ V, V = ((((w.alloc (.cells #[.int .i64 (A 0), .int .i64 (A 1), .int .i64 (A 2), .int .i64 (A 3), .int .i64 (A 4), .int .i64 (A 5), .int .i64 (A 6), .int .i64 (A 7), .int .i64 (A 8)] 58)).alloc (.cells #[.int .i64 (B 0), .int .i64 (B 1), .int .i64 (B 2), .int .i64 (B 3), .int .i64 (B 4), .int .i64 (B 5), .int .i64 (B 6), .int .i64 (B 7), .int .i64 (B 8)] 58)).alloc (.cells #[.int .i64 0, .int .i64 0, .int .i64 0, .int .i64 0, .int .i64 0, .int .i64 0, .int .i64 0, .int .i64 0, .int .i64 0] 58)).alloc (.cells #[.int .i64 0, .int .i64 0, .int .i64 0, .int .i64 0, .int .i64 0, .int .i64 0, .int .i64 0, .int .i64 0, .int .i64 0] 58)) ∧ Below w.heap.size w V ∧ Held w.heap.size [.int .i64 (A 0), .int .i64 (A 1), .int .i64 (A 2), .int .i64 (A 3), .int .i64 (A 4), .int .i64 (A 5), .int .i64 (A 6), .int .i64 (A 7), .int .i64 (A 8)] V ∧ Held (w.heap.size + 1) [.int .i64 (B 0), .int .i64 (B 1), .int .i64 (B 2), .int .i64 (B 3), .int .i64 (B 4), .int .i64 (B 5), .int .i64 (B 6), .int .i64 (B 7), .int .i64 (B 8)] V ∧ Held (w.heap.size + 2) [.int .i64 0, .int .i64 0, .int .i64 0, .int .i64 0, .int .i64 0, .int .i64 0, .int .i64 0, .int .i64 0, .int .i64 0] V ∧ Held (w.heap.size + 3) [.int .i64 0, .int .i64 0, .int .i64 0, .int .i64 0, .int .i64 0, .int .i64 0, .int .i64 0, .int .i64 0, .int .i64 0] V ∧ V.heap.size = w.heap.size + 4 := by
  refine ⟨_, rfl, (by repeat (first | exact Below.refl _ _ | assumption | apply Below.drew | apply below_drewN | (refine Below.alloc ?_ (by first | exact Nat.le_refl _ | omega | (simp <;> omega)) _) | (refine Below.setCell ?_ (by first | exact Nat.le_refl _ | omega | (simp <;> omega)) _))), ?_, ?_, ?_, ?_, by simp⟩
  · have := ((((Held.new w [.int .i64 (A 0), .int .i64 (A 1), .int .i64 (A 2), .int .i64 (A 3), .int .i64 (A 4), .int .i64 (A 5), .int .i64 (A 6), .int .i64 (A 7), .int .i64 (A 8)] 58).alloc (.cells #[.int .i64 (B 0), .int .i64 (B 1), .int .i64 (B 2), .int .i64 (B 3), .int .i64 (B 4), .int .i64 (B 5), .int .i64 (B 6), .int .i64 (B 7), .int .i64 (B 8)] 58)).alloc (.cells #[.int .i64 0, .int .i64 0, .int .i64 0, .int .i64 0, .int .i64 0, .int .i64 0, .int .i64 0, .int .i64 0, .int .i64 0] 58)).alloc (.cells #[.int .i64 0, .int .i64 0, .int .i64 0, .int .i64 0, .int .i64 0, .int .i64 0, .int .i64 0, .int .i64 0, .int .i64 0] 58))
    simpa using this
  · have := (((Held.new (w.alloc (.cells #[.int .i64 (A 0), .int .i64 (A 1), .int .i64 (A 2), .int .i64 (A 3), .int .i64 (A 4), .int .i64 (A 5), .int .i64 (A 6), .int .i64 (A 7), .int .i64 (A 8)] 58)) [.int .i64 (B 0), .int .i64 (B 1), .int .i64 (B 2), .int .i64 (B 3), .int .i64 (B 4), .int .i64 (B 5), .int .i64 (B 6), .int .i64 (B 7), .int .i64 (B 8)] 58).alloc (.cells #[.int .i64 0, .int .i64 0, .int .i64 0, .int .i64 0, .int .i64 0, .int .i64 0, .int .i64 0, .int .i64 0, .int .i64 0] 58)).alloc (.cells #[.int .i64 0, .int .i64 0, .int .i64 0, .int .i64 0, .int .i64 0, .int .i64 0, .int .i64 0, .int .i64 0, .int .i64 0] 58))
    simpa using this
  · have := ((Held.new ((w.alloc (.cells #[.int .i64 (A 0), .int .i64 (A 1), .int .i64 (A 2), .int .i64 (A 3), .int .i64 (A 4), .int .i64 (A 5), .int .i64 (A 6), .int .i64 (A 7), .int .i64 (A 8)] 58)).alloc (.cells #[.int .i64 (B 0), .int .i64 (B 1), .int .i64 (B 2), .int .i64 (B 3), .int .i64 (B 4), .int .i64 (B 5), .int .i64 (B 6), .int .i64 (B 7), .int .i64 (B 8)] 58)) [.int .i64 0, .int .i64 0, .int .i64 0, .int .i64 0, .int .i64 0, .int .i64 0, .int .i64 0, .int .i64 0, .int .i64 0] 58).alloc (.cells #[.int .i64 0, .int .i64 0, .int .i64 0, .int .i64 0, .int .i64 0, .int .i64 0, .int .i64 0, .int .i64 0, .int .i64 0] 58))
    simpa using this
  · have := (Held.new (((w.alloc (.cells #[.int .i64 (A 0), .int .i64 (A 1), .int .i64 (A 2), .int .i64 (A 3), .int .i64 (A 4), .int .i64 (A 5), .int .i64 (A 6), .int .i64 (A 7), .int .i64 (A 8)] 58)).alloc (.cells #[.int .i64 (B 0), .int .i64 (B 1), .int .i64 (B 2), .int .i64 (B 3), .int .i64 (B 4), .int .i64 (B 5), .int .i64 (B 6), .int .i64 (B 7), .int .i64 (B 8)] 58)).alloc (.cells #[.int .i64 0, .int .i64 0, .int .i64 0, .int .i64 0, .int .i64 0, .int .i64 0, .int .i64 0, .int .i64 0, .int .i64 0] 58)) [.int .i64 0, .int .i64 0, .int .i64 0, .int .i64 0, .int .i64 0, .int .i64 0, .int .i64 0, .int .i64 0, .int .i64 0] 58)
    simpa using this
def RmuI (A B : Nat → Int) (w : World) (k : Nat) (u : World) : Prop := Held w.heap.size [.int .i64 (A 0), .int .i64 (A 1), .int .i64 (A 2), .int .i64 (A 3), .int .i64 (A 4), .int .i64 (A 5), .int .i64 (A 6), .int .i64 (A 7), .int .i64 (A 8)] u ∧ Held (w.heap.size + 1) [.int .i64 (B 0), .int .i64 (B 1), .int .i64 (B 2), .int .i64 (B 3), .int .i64 (B 4), .int .i64 (B 5), .int .i64 (B 6), .int .i64 (B 7), .int .i64 (B 8)] u ∧ Held (w.heap.size + 2) [.int .i64 0, .int .i64 0, .int .i64 0, .int .i64 0, .int .i64 0, .int .i64 0, .int .i64 0, .int .i64 0, .int .i64 0] u ∧ Held (w.heap.size + 3) (mC (mul A B) k) u ∧ Below w.heap.size w u
theorem RmuI.step {A B : Nat → Int} {w u : World} {k : Nat} (h : RmuI A B w k u) (hk : k < 9) : RmuI A B w (k + 1) (u.setCell ⟨w.heap.size + 3, k, none⟩ (.int .i64 (mul A B k))) := by
  obtain ⟨h1, h2, h3, h4, h5⟩ := h
  have O : Only (w.heap.size + 3) u (u.setCell ⟨w.heap.size + 3, k, none⟩ (.int .i64 (mul A B k))) := (Only.refl (w.heap.size + 3) u).setCell (p := ⟨w.heap.size + 3, k, none⟩) (.int .i64 (mul A B k))
  exact ⟨h1.only O (by omega), h2.only O (by omega), h3.only O (by omega), mC_set (mul A B) k hk ▸ h4.set k _ (by rw [mC_len]; exact hk), h5.trans (O.below (by omega))⟩
theorem RmuI.bel {A B : Nat → Int} {w u u' : World} {k : Nat} (h : RmuI A B w k u) (q : Below u.heap.size u u') : RmuI A B w k u' := ⟨h.1.bel q, h.2.1.bel q, h.2.2.1.bel q, h.2.2.2.1.bel q, h.2.2.2.2.trans (q.mono h.2.2.2.2.size)⟩
theorem rdot12 (a0 a1 a2 b0 b1 b2 : Int) (w : World) : Calls Try.prog 33 #[.agg #[.int .i64 a0, .int .i64 a1, .int .i64 a2], .agg #[.int .i64 b0, .int .i64 b1, .int .i64 b2]] w fun e w' => e = .returned (.int .i64 (clp (prd a0 b0 + prd a1 b1 + prd a2 b2))) ∧ Below w.heap.size w w' :=
  rdot (fun t => match t with | 0 => a0 | 1 => a1 | _ => a2) (fun t => match t with | 0 => b0 | 1 => b1 | _ => b2) w
set_option maxRecDepth 100000 in
set_option maxHeartbeats 8000000 in
theorem rmul (A B : Nat → Int) (w : World) : Calls Try.prog 39 #[.agg #[.int .i64 (A 0), .int .i64 (A 1), .int .i64 (A 2), .int .i64 (A 3), .int .i64 (A 4), .int .i64 (A 5), .int .i64 (A 6), .int .i64 (A 7), .int .i64 (A 8)], .agg #[.int .i64 (B 0), .int .i64 (B 1), .int .i64 (B 2), .int .i64 (B 3), .int .i64 (B 4), .int .i64 (B 5), .int .i64 (B 6), .int .i64 (B 7), .int .i64 (B 8)]] w fun e w' => e = .returned (.agg #[.int .i64 ((mul A B) 0), .int .i64 ((mul A B) 1), .int .i64 ((mul A B) 2), .int .i64 ((mul A B) 3), .int .i64 ((mul A B) 4), .int .i64 ((mul A B) 5), .int .i64 ((mul A B) 6), .int .i64 ((mul A B) 7), .int .i64 ((mul A B) 8)]) ∧ Below w.heap.size w w' := by
  obtain ⟨V, eV, hb0, hA, hB, hR, hM, hz⟩ := rmu_box w A B
  have S0 := Lib.hid (show RmuI A B w 0 V from ⟨hA, hB, hR, by rw [mC_zero]; exact hM, hb0⟩)
  replace eV := Lib.hid eV
  clear hA hB hR hM hb0 hz
  go_enter Try.func39, Try.ntmps39
  go_upto_region 2 with (fail)
  rw [← eV.out]
  go_wp2_with fail
  go_loopw [6] (fun i u => ∃ k : Nat, k ≤ 9 ∧ i = .int .i64 (k : Int) ∧ Hid (RmuI A B w k u)) (fun i _ => 9 - (intOf i).toNat)
  case atStart => exact ⟨0, by omega, rfl, S0⟩
  case round =>
    clear S0
    obtain ⟨k, hk, rfl, S⟩ := hrel
    rcases (show k = 0 ∨ k = 1 ∨ k = 2 ∨ k = 3 ∨ k = 4 ∨ k = 5 ∨ k = 6 ∨ k = 7 ∨ k = 8 ∨ k = 9 by omega) with rfl | rfl | rfl | rfl | rfl | rfl | rfl | rfl | rfl | rfl
    · have RR := Lib.hid (fun u => rrow0 A u)
      have RC := Lib.hid (fun u => rcol0 B u)
      have RD := Lib.hid (fun u => show Calls Try.prog 33 #[.agg #[.int .i64 (A 0), .int .i64 (A 1), .int .i64 (A 2)], .agg #[.int .i64 (B 0), .int .i64 (B 3), .int .i64 (B 6)]] u fun e w' => e = .returned (.int .i64 (mul A B 0)) ∧ Below u.heap.size u w' from rdot12 (A 0) (A 1) (A 2) (B 0) (B 3) (B 6) u)
      have hA := S.out.1
      have hB := S.out.2.1
      obtain ⟨c0, f0⟩ := hA.one 0 rfl
      obtain ⟨c1, f1⟩ := hA.one 1 rfl
      obtain ⟨c2, f2⟩ := hA.one 2 rfl
      obtain ⟨c3, f3⟩ := hA.one 3 rfl
      obtain ⟨c4, f4⟩ := hA.one 4 rfl
      obtain ⟨c5, f5⟩ := hA.one 5 rfl
      obtain ⟨c6, f6⟩ := hA.one 6 rfl
      obtain ⟨c7, f7⟩ := hA.one 7 rfl
      obtain ⟨c8, f8⟩ := hA.one 8 rfl
      obtain ⟨d0, g0⟩ := hB.one 0 rfl
      obtain ⟨d1, g1⟩ := hB.one 1 rfl
      obtain ⟨d2, g2⟩ := hB.one 2 rfl
      obtain ⟨d3, g3⟩ := hB.one 3 rfl
      obtain ⟨d4, g4⟩ := hB.one 4 rfl
      obtain ⟨d5, g5⟩ := hB.one 5 rfl
      obtain ⟨d6, g6⟩ := hB.one 6 rfl
      obtain ⟨d7, g7⟩ := hB.one 7 rfl
      obtain ⟨d8, g8⟩ := hB.one 8 rfl
      clear hA hB
      go_wp2_with fail
      refine region_moves (fun u => u.cell? ⟨w.heap.size, 0, none⟩ = some (.int .i64 (A 0)) ∧ u.cell? ⟨w.heap.size, 1, none⟩ = some (.int .i64 (A 1)) ∧ u.cell? ⟨w.heap.size, 2, none⟩ = some (.int .i64 (A 2)) ∧ u.cell? ⟨w.heap.size, 3, none⟩ = some (.int .i64 (A 3)) ∧ u.cell? ⟨w.heap.size, 4, none⟩ = some (.int .i64 (A 4)) ∧ u.cell? ⟨w.heap.size, 5, none⟩ = some (.int .i64 (A 5)) ∧ u.cell? ⟨w.heap.size, 6, none⟩ = some (.int .i64 (A 6)) ∧ u.cell? ⟨w.heap.size, 7, none⟩ = some (.int .i64 (A 7)) ∧ u.cell? ⟨w.heap.size, 8, none⟩ = some (.int .i64 (A 8)) ∧ u.cell? ⟨w.heap.size + 1, 0, none⟩ = some (.int .i64 (B 0)) ∧ u.cell? ⟨w.heap.size + 1, 1, none⟩ = some (.int .i64 (B 1)) ∧ u.cell? ⟨w.heap.size + 1, 2, none⟩ = some (.int .i64 (B 2)) ∧ u.cell? ⟨w.heap.size + 1, 3, none⟩ = some (.int .i64 (B 3)) ∧ u.cell? ⟨w.heap.size + 1, 4, none⟩ = some (.int .i64 (B 4)) ∧ u.cell? ⟨w.heap.size + 1, 5, none⟩ = some (.int .i64 (B 5)) ∧ u.cell? ⟨w.heap.size + 1, 6, none⟩ = some (.int .i64 (B 6)) ∧ u.cell? ⟨w.heap.size + 1, 7, none⟩ = some (.int .i64 (B 7)) ∧ u.cell? ⟨w.heap.size + 1, 8, none⟩ = some (.int .i64 (B 8))) [(11, [(10, 11), (9, 11), (0, 11), (1, 11), (2, 11), (3, 11), (4, 11), (5, 11), (6, 11), (7, 11), (8, 11)])] [(.free, 0), (.take, 1), (.free, 2), (.free, 3), (.take, 5), (.free, 6), (.free, 7), (.step, 4), (.step, 8), (.step, 9), (.free, 10), (.late, 11)] _ (by kernel_rfl) (by kernel_rfl) (by kernel_rfl) (by kernel_rfl) (by decide) rfl (fun _ _ _ _ _ h => h) ?_
      simp only [List.filterMap_cons, List.filterMap_nil, List.getElem?_toArray, List.getElem?_cons_zero, List.getElem?_cons_succ, Option.map_some]
      iterate 1
        first
          | (refine mv_free ?_ (Or.inl ⟨by rfl, ?_⟩) (⟨c0, c1, c2, c3, c4, c5, c6, c7, c8, d0, d1, d2, d3, d4, d5, d6, d7, d8⟩) ?_
             rotate_left 1
             · intro u
               go_simp
               try simp only [d1]
               try simp only [d2]
               try simp only [d3]
               try with_reducible rfl
             simp only [Act.put, List.setIfInBounds_toArray, List.set_cons_zero, List.set_cons_succ])
          | (refine mv_free _ (Or.inr ⟨by rfl, rfl⟩) (⟨c0, c1, c2, c3, c4, c5, c6, c7, c8, d0, d1, d2, d3, d4, d5, d6, d7, d8⟩) ?_
             simp only [Act.put, List.setIfInBounds_toArray, List.set_cons_zero, List.set_cons_succ])
      iterate 1
        first
          | (refine mv_take ?_ (Or.inl ⟨by rfl, ?_⟩) (⟨c0, c1, c2, c3, c4, c5, c6, c7, c8, d0, d1, d2, d3, d4, d5, d6, d7, d8⟩) ?_
             rotate_left 1
             · intro u hu
               (try dsimp only at hu)
               go_simp
               try with_reducible rfl
             simp only [Act.put, List.setIfInBounds_toArray, List.set_cons_zero, List.set_cons_succ])
          | (refine mv_take _ (Or.inr ⟨by rfl, rfl⟩) (⟨c0, c1, c2, c3, c4, c5, c6, c7, c8, d0, d1, d2, d3, d4, d5, d6, d7, d8⟩) ?_
             simp only [Act.put, List.setIfInBounds_toArray, List.set_cons_zero, List.set_cons_succ])
      iterate 2
        first
          | (refine mv_free ?_ (Or.inl ⟨by rfl, ?_⟩) (⟨c0, c1, c2, c3, c4, c5, c6, c7, c8, d0, d1, d2, d3, d4, d5, d6, d7, d8⟩) ?_
             rotate_left 1
             · intro u
               go_simp
               try simp only [d1]
               try simp only [d2]
               try simp only [d3]
               try with_reducible rfl
             simp only [Act.put, List.setIfInBounds_toArray, List.set_cons_zero, List.set_cons_succ])
          | (refine mv_free _ (Or.inr ⟨by rfl, rfl⟩) (⟨c0, c1, c2, c3, c4, c5, c6, c7, c8, d0, d1, d2, d3, d4, d5, d6, d7, d8⟩) ?_
             simp only [Act.put, List.setIfInBounds_toArray, List.set_cons_zero, List.set_cons_succ])
      iterate 1
        first
          | (refine mv_take ?_ (Or.inl ⟨by rfl, ?_⟩) (⟨c0, c1, c2, c3, c4, c5, c6, c7, c8, d0, d1, d2, d3, d4, d5, d6, d7, d8⟩) ?_
             rotate_left 1
             · intro u hu
               (try dsimp only at hu)
               go_simp
               try with_reducible rfl
             simp only [Act.put, List.setIfInBounds_toArray, List.set_cons_zero, List.set_cons_succ])
          | (refine mv_take _ (Or.inr ⟨by rfl, rfl⟩) (⟨c0, c1, c2, c3, c4, c5, c6, c7, c8, d0, d1, d2, d3, d4, d5, d6, d7, d8⟩) ?_
             simp only [Act.put, List.setIfInBounds_toArray, List.set_cons_zero, List.set_cons_succ])
      iterate 2
        first
          | (refine mv_free ?_ (Or.inl ⟨by rfl, ?_⟩) (⟨c0, c1, c2, c3, c4, c5, c6, c7, c8, d0, d1, d2, d3, d4, d5, d6, d7, d8⟩) ?_
             rotate_left 1
             · intro u
               go_simp
               try simp only [d1]
               try simp only [d2]
               try simp only [d3]
               try with_reducible rfl
             simp only [Act.put, List.setIfInBounds_toArray, List.set_cons_zero, List.set_cons_succ])
          | (refine mv_free _ (Or.inr ⟨by rfl, rfl⟩) (⟨c0, c1, c2, c3, c4, c5, c6, c7, c8, d0, d1, d2, d3, d4, d5, d6, d7, d8⟩) ?_
             simp only [Act.put, List.setIfInBounds_toArray, List.set_cons_zero, List.set_cons_succ])
      refine mv_step (fun K hK => ?_)
      go_simp
      refine (RR.out _).mono ?_
      rintro e w1 ⟨rfl, hb1⟩
      have S1 := Lib.hid (S.out.bel ((Below.refl _ _).drew.trans hb1))
      clear hb1
      clear c0 f0 d0 g0 c1 f1 d1 g1 c2 f2 d2 g2 c3 f3 d3 g3 c4 f4 d4 g4 c5 f5 d5 g5 c6 f6 d6 g6 c7 f7 d7 g7 c8 f8 d8 g8
      have hA := S1.out.1
      have hB := S1.out.2.1
      obtain ⟨c0, f0⟩ := hA.one 0 rfl
      obtain ⟨c1, f1⟩ := hA.one 1 rfl
      obtain ⟨c2, f2⟩ := hA.one 2 rfl
      obtain ⟨c3, f3⟩ := hA.one 3 rfl
      obtain ⟨c4, f4⟩ := hA.one 4 rfl
      obtain ⟨c5, f5⟩ := hA.one 5 rfl
      obtain ⟨c6, f6⟩ := hA.one 6 rfl
      obtain ⟨c7, f7⟩ := hA.one 7 rfl
      obtain ⟨c8, f8⟩ := hA.one 8 rfl
      obtain ⟨d0, g0⟩ := hB.one 0 rfl
      obtain ⟨d1, g1⟩ := hB.one 1 rfl
      obtain ⟨d2, g2⟩ := hB.one 2 rfl
      obtain ⟨d3, g3⟩ := hB.one 3 rfl
      obtain ⟨d4, g4⟩ := hB.one 4 rfl
      obtain ⟨d5, g5⟩ := hB.one 5 rfl
      obtain ⟨d6, g6⟩ := hB.one 6 rfl
      obtain ⟨d7, g7⟩ := hB.one 7 rfl
      obtain ⟨d8, g8⟩ := hB.one 8 rfl
      clear hA hB
      go_wp2_with fail
      refine hK.out _ _ _ (fun u hu => hu) (⟨c0, c1, c2, c3, c4, c5, c6, c7, c8, d0, d1, d2, d3, d4, d5, d6, d7, d8⟩) ?_
      clear hK K
      refine mv_step (fun K hK => ?_)
      go_simp
      refine (RC.out _).mono ?_
      rintro e w2 ⟨rfl, hb2⟩
      have S2 := Lib.hid (S1.out.bel (hb2))
      clear hb2
      clear c0 f0 d0 g0 c1 f1 d1 g1 c2 f2 d2 g2 c3 f3 d3 g3 c4 f4 d4 g4 c5 f5 d5 g5 c6 f6 d6 g6 c7 f7 d7 g7 c8 f8 d8 g8
      have hA := S2.out.1
      have hB := S2.out.2.1
      obtain ⟨c0, f0⟩ := hA.one 0 rfl
      obtain ⟨c1, f1⟩ := hA.one 1 rfl
      obtain ⟨c2, f2⟩ := hA.one 2 rfl
      obtain ⟨c3, f3⟩ := hA.one 3 rfl
      obtain ⟨c4, f4⟩ := hA.one 4 rfl
      obtain ⟨c5, f5⟩ := hA.one 5 rfl
      obtain ⟨c6, f6⟩ := hA.one 6 rfl
      obtain ⟨c7, f7⟩ := hA.one 7 rfl
      obtain ⟨c8, f8⟩ := hA.one 8 rfl
      obtain ⟨d0, g0⟩ := hB.one 0 rfl
      obtain ⟨d1, g1⟩ := hB.one 1 rfl
      obtain ⟨d2, g2⟩ := hB.one 2 rfl
      obtain ⟨d3, g3⟩ := hB.one 3 rfl
      obtain ⟨d4, g4⟩ := hB.one 4 rfl
      obtain ⟨d5, g5⟩ := hB.one 5 rfl
      obtain ⟨d6, g6⟩ := hB.one 6 rfl
      obtain ⟨d7, g7⟩ := hB.one 7 rfl
      obtain ⟨d8, g8⟩ := hB.one 8 rfl
      clear hA hB
      go_wp2_with fail
      refine hK.out _ _ _ (fun u hu => hu) (⟨c0, c1, c2, c3, c4, c5, c6, c7, c8, d0, d1, d2, d3, d4, d5, d6, d7, d8⟩) ?_
      clear hK K
      refine mv_step (fun K hK => ?_)
      go_simp
      refine (RD.out _).mono ?_
      rintro e w3 ⟨rfl, hb3⟩
      have S3 := Lib.hid (S2.out.bel (hb3))
      clear hb3
      clear c0 f0 d0 g0 c1 f1 d1 g1 c2 f2 d2 g2 c3 f3 d3 g3 c4 f4 d4 g4 c5 f5 d5 g5 c6 f6 d6 g6 c7 f7 d7 g7 c8 f8 d8 g8
      have hA := S3.out.1
      have hB := S3.out.2.1
      obtain ⟨c0, f0⟩ := hA.one 0 rfl
      obtain ⟨c1, f1⟩ := hA.one 1 rfl
      obtain ⟨c2, f2⟩ := hA.one 2 rfl
      obtain ⟨c3, f3⟩ := hA.one 3 rfl
      obtain ⟨c4, f4⟩ := hA.one 4 rfl
      obtain ⟨c5, f5⟩ := hA.one 5 rfl
      obtain ⟨c6, f6⟩ := hA.one 6 rfl
      obtain ⟨c7, f7⟩ := hA.one 7 rfl
      obtain ⟨c8, f8⟩ := hA.one 8 rfl
      obtain ⟨d0, g0⟩ := hB.one 0 rfl
      obtain ⟨d1, g1⟩ := hB.one 1 rfl
      obtain ⟨d2, g2⟩ := hB.one 2 rfl
      obtain ⟨d3, g3⟩ := hB.one 3 rfl
      obtain ⟨d4, g4⟩ := hB.one 4 rfl
      obtain ⟨d5, g5⟩ := hB.one 5 rfl
      obtain ⟨d6, g6⟩ := hB.one 6 rfl
      obtain ⟨d7, g7⟩ := hB.one 7 rfl
      obtain ⟨d8, g8⟩ := hB.one 8 rfl
      clear hA hB
      have ck := S3.out.2.2.2.1.c 0 _ (mC_at (mul A B) _ _ (by omega))
      have fk := S3.out.2.2.2.1.f 0 (by rw [mC_len]; omega)
      have S4 := Lib.hid (S3.out.step (by omega))
      generalize mul A B 0 = x at *
      go_wp2_with fail
      refine hK.out _ _ _ (fun u hu => hu) (⟨c0, c1, c2, c3, c4, c5, c6, c7, c8, d0, d1, d2, d3, d4, d5, d6, d7, d8⟩) ?_
      clear hK K
      iterate 1
        first
          | (refine mv_free ?_ (Or.inl ⟨by rfl, ?_⟩) (⟨c0, c1, c2, c3, c4, c5, c6, c7, c8, d0, d1, d2, d3, d4, d5, d6, d7, d8⟩) ?_
             rotate_left 1
             · intro u
               go_simp
               try simp only [d1]
               try simp only [d2]
               try simp only [d3]
               try with_reducible rfl
             simp only [Act.put, List.setIfInBounds_toArray, List.set_cons_zero, List.set_cons_succ])
          | (refine mv_free _ (Or.inr ⟨by rfl, rfl⟩) (⟨c0, c1, c2, c3, c4, c5, c6, c7, c8, d0, d1, d2, d3, d4, d5, d6, d7, d8⟩) ?_
             simp only [Act.put, List.setIfInBounds_toArray, List.set_cons_zero, List.set_cons_succ])
      refine mv_late (fun K hK => ?_)
      go_simp
      refine hK.out (fun _ => True) _ _ ?_
      clear hK K
      refine mv_done ?_
      generalize w3.setCell ⟨w.heap.size + 3, 0, none⟩ (.int .i64 x) = w4 at *
      go_wp2
      go_roundw
      case rel => exact ⟨0 + 1, by omega, by first | rfl | go_num, S4⟩
      case measure => simp [intOf]
    · have RR := Lib.hid (fun u => rrow0 A u)
      have RC := Lib.hid (fun u => rcol1 B u)
      have RD := Lib.hid (fun u => show Calls Try.prog 33 #[.agg #[.int .i64 (A 0), .int .i64 (A 1), .int .i64 (A 2)], .agg #[.int .i64 (B 1), .int .i64 (B 4), .int .i64 (B 7)]] u fun e w' => e = .returned (.int .i64 (mul A B 1)) ∧ Below u.heap.size u w' from rdot12 (A 0) (A 1) (A 2) (B 1) (B 4) (B 7) u)
      have hA := S.out.1
      have hB := S.out.2.1
      obtain ⟨c0, f0⟩ := hA.one 0 rfl
      obtain ⟨c1, f1⟩ := hA.one 1 rfl
      obtain ⟨c2, f2⟩ := hA.one 2 rfl
      obtain ⟨c3, f3⟩ := hA.one 3 rfl
      obtain ⟨c4, f4⟩ := hA.one 4 rfl
      obtain ⟨c5, f5⟩ := hA.one 5 rfl
      obtain ⟨c6, f6⟩ := hA.one 6 rfl
      obtain ⟨c7, f7⟩ := hA.one 7 rfl
      obtain ⟨c8, f8⟩ := hA.one 8 rfl
      obtain ⟨d0, g0⟩ := hB.one 0 rfl
      obtain ⟨d1, g1⟩ := hB.one 1 rfl
      obtain ⟨d2, g2⟩ := hB.one 2 rfl
      obtain ⟨d3, g3⟩ := hB.one 3 rfl
      obtain ⟨d4, g4⟩ := hB.one 4 rfl
      obtain ⟨d5, g5⟩ := hB.one 5 rfl
      obtain ⟨d6, g6⟩ := hB.one 6 rfl
      obtain ⟨d7, g7⟩ := hB.one 7 rfl
      obtain ⟨d8, g8⟩ := hB.one 8 rfl
      clear hA hB
      go_wp2_with fail
      refine region_moves (fun u => u.cell? ⟨w.heap.size, 0, none⟩ = some (.int .i64 (A 0)) ∧ u.cell? ⟨w.heap.size, 1, none⟩ = some (.int .i64 (A 1)) ∧ u.cell? ⟨w.heap.size, 2, none⟩ = some (.int .i64 (A 2)) ∧ u.cell? ⟨w.heap.size, 3, none⟩ = some (.int .i64 (A 3)) ∧ u.cell? ⟨w.heap.size, 4, none⟩ = some (.int .i64 (A 4)) ∧ u.cell? ⟨w.heap.size, 5, none⟩ = some (.int .i64 (A 5)) ∧ u.cell? ⟨w.heap.size, 6, none⟩ = some (.int .i64 (A 6)) ∧ u.cell? ⟨w.heap.size, 7, none⟩ = some (.int .i64 (A 7)) ∧ u.cell? ⟨w.heap.size, 8, none⟩ = some (.int .i64 (A 8)) ∧ u.cell? ⟨w.heap.size + 1, 0, none⟩ = some (.int .i64 (B 0)) ∧ u.cell? ⟨w.heap.size + 1, 1, none⟩ = some (.int .i64 (B 1)) ∧ u.cell? ⟨w.heap.size + 1, 2, none⟩ = some (.int .i64 (B 2)) ∧ u.cell? ⟨w.heap.size + 1, 3, none⟩ = some (.int .i64 (B 3)) ∧ u.cell? ⟨w.heap.size + 1, 4, none⟩ = some (.int .i64 (B 4)) ∧ u.cell? ⟨w.heap.size + 1, 5, none⟩ = some (.int .i64 (B 5)) ∧ u.cell? ⟨w.heap.size + 1, 6, none⟩ = some (.int .i64 (B 6)) ∧ u.cell? ⟨w.heap.size + 1, 7, none⟩ = some (.int .i64 (B 7)) ∧ u.cell? ⟨w.heap.size + 1, 8, none⟩ = some (.int .i64 (B 8))) [(11, [(10, 11), (9, 11), (0, 11), (1, 11), (2, 11), (3, 11), (4, 11), (5, 11), (6, 11), (7, 11), (8, 11)])] [(.free, 0), (.take, 1), (.free, 2), (.free, 3), (.take, 5), (.free, 6), (.free, 7), (.step, 4), (.step, 8), (.step, 9), (.free, 10), (.late, 11)] _ (by kernel_rfl) (by kernel_rfl) (by kernel_rfl) (by kernel_rfl) (by decide) rfl (fun _ _ _ _ _ h => h) ?_
      simp only [List.filterMap_cons, List.filterMap_nil, List.getElem?_toArray, List.getElem?_cons_zero, List.getElem?_cons_succ, Option.map_some]
      iterate 1
        first
          | (refine mv_free ?_ (Or.inl ⟨by rfl, ?_⟩) (⟨c0, c1, c2, c3, c4, c5, c6, c7, c8, d0, d1, d2, d3, d4, d5, d6, d7, d8⟩) ?_
             rotate_left 1
             · intro u
               go_simp
               try simp only [d1]
               try simp only [d2]
               try simp only [d3]
               try with_reducible rfl
             simp only [Act.put, List.setIfInBounds_toArray, List.set_cons_zero, List.set_cons_succ])
          | (refine mv_free _ (Or.inr ⟨by rfl, rfl⟩) (⟨c0, c1, c2, c3, c4, c5, c6, c7, c8, d0, d1, d2, d3, d4, d5, d6, d7, d8⟩) ?_
             simp only [Act.put, List.setIfInBounds_toArray, List.set_cons_zero, List.set_cons_succ])
      iterate 1
        first
          | (refine mv_take ?_ (Or.inl ⟨by rfl, ?_⟩) (⟨c0, c1, c2, c3, c4, c5, c6, c7, c8, d0, d1, d2, d3, d4, d5, d6, d7, d8⟩) ?_
             rotate_left 1
             · intro u hu
               (try dsimp only at hu)
               go_simp
               try with_reducible rfl
             simp only [Act.put, List.setIfInBounds_toArray, List.set_cons_zero, List.set_cons_succ])
          | (refine mv_take _ (Or.inr ⟨by rfl, rfl⟩) (⟨c0, c1, c2, c3, c4, c5, c6, c7, c8, d0, d1, d2, d3, d4, d5, d6, d7, d8⟩) ?_
             simp only [Act.put, List.setIfInBounds_toArray, List.set_cons_zero, List.set_cons_succ])
      iterate 2
        first
          | (refine mv_free ?_ (Or.inl ⟨by rfl, ?_⟩) (⟨c0, c1, c2, c3, c4, c5, c6, c7, c8, d0, d1, d2, d3, d4, d5, d6, d7, d8⟩) ?_
             rotate_left 1
             · intro u
               go_simp
               try simp only [d1]
               try simp only [d2]
               try simp only [d3]
               try with_reducible rfl
             simp only [Act.put, List.setIfInBounds_toArray, List.set_cons_zero, List.set_cons_succ])
          | (refine mv_free _ (Or.inr ⟨by rfl, rfl⟩) (⟨c0, c1, c2, c3, c4, c5, c6, c7, c8, d0, d1, d2, d3, d4, d5, d6, d7, d8⟩) ?_
             simp only [Act.put, List.setIfInBounds_toArray, List.set_cons_zero, List.set_cons_succ])
      iterate 1
        first
          | (refine mv_take ?_ (Or.inl ⟨by rfl, ?_⟩) (⟨c0, c1, c2, c3, c4, c5, c6, c7, c8, d0, d1, d2, d3, d4, d5, d6, d7, d8⟩) ?_
             rotate_left 1
             · intro u hu
               (try dsimp only at hu)
               go_simp
               try with_reducible rfl
             simp only [Act.put, List.setIfInBounds_toArray, List.set_cons_zero, List.set_cons_succ])
          | (refine mv_take _ (Or.inr ⟨by rfl, rfl⟩) (⟨c0, c1, c2, c3, c4, c5, c6, c7, c8, d0, d1, d2, d3, d4, d5, d6, d7, d8⟩) ?_
             simp only [Act.put, List.setIfInBounds_toArray, List.set_cons_zero, List.set_cons_succ])
      iterate 2
        first
          | (refine mv_free ?_ (Or.inl ⟨by rfl, ?_⟩) (⟨c0, c1, c2, c3, c4, c5, c6, c7, c8, d0, d1, d2, d3, d4, d5, d6, d7, d8⟩) ?_
             rotate_left 1
             · intro u
               go_simp
               try simp only [d1]
               try simp only [d2]
               try simp only [d3]
               try with_reducible rfl
             simp only [Act.put, List.setIfInBounds_toArray, List.set_cons_zero, List.set_cons_succ])
          | (refine mv_free _ (Or.inr ⟨by rfl, rfl⟩) (⟨c0, c1, c2, c3, c4, c5, c6, c7, c8, d0, d1, d2, d3, d4, d5, d6, d7, d8⟩) ?_
             simp only [Act.put, List.setIfInBounds_toArray, List.set_cons_zero, List.set_cons_succ])
      refine mv_step (fun K hK => ?_)
      go_simp
      refine (RR.out _).mono ?_
      rintro e w1 ⟨rfl, hb1⟩
      have S1 := Lib.hid (S.out.bel ((Below.refl _ _).drew.trans hb1))
      clear hb1
      clear c0 f0 d0 g0 c1 f1 d1 g1 c2 f2 d2 g2 c3 f3 d3 g3 c4 f4 d4 g4 c5 f5 d5 g5 c6 f6 d6 g6 c7 f7 d7 g7 c8 f8 d8 g8
      have hA := S1.out.1
      have hB := S1.out.2.1
      obtain ⟨c0, f0⟩ := hA.one 0 rfl
      obtain ⟨c1, f1⟩ := hA.one 1 rfl
      obtain ⟨c2, f2⟩ := hA.one 2 rfl
      obtain ⟨c3, f3⟩ := hA.one 3 rfl
      obtain ⟨c4, f4⟩ := hA.one 4 rfl
      obtain ⟨c5, f5⟩ := hA.one 5 rfl
      obtain ⟨c6, f6⟩ := hA.one 6 rfl
      obtain ⟨c7, f7⟩ := hA.one 7 rfl
      obtain ⟨c8, f8⟩ := hA.one 8 rfl
      obtain ⟨d0, g0⟩ := hB.one 0 rfl
      obtain ⟨d1, g1⟩ := hB.one 1 rfl
      obtain ⟨d2, g2⟩ := hB.one 2 rfl
      obtain ⟨d3, g3⟩ := hB.one 3 rfl
      obtain ⟨d4, g4⟩ := hB.one 4 rfl
      obtain ⟨d5, g5⟩ := hB.one 5 rfl
      obtain ⟨d6, g6⟩ := hB.one 6 rfl
      obtain ⟨d7, g7⟩ := hB.one 7 rfl
      obtain ⟨d8, g8⟩ := hB.one 8 rfl
      clear hA hB
      go_wp2_with fail
      refine hK.out _ _ _ (fun u hu => hu) (⟨c0, c1, c2, c3, c4, c5, c6, c7, c8, d0, d1, d2, d3, d4, d5, d6, d7, d8⟩) ?_
      clear hK K
      refine mv_step (fun K hK => ?_)
      go_simp
      refine (RC.out _).mono ?_
      rintro e w2 ⟨rfl, hb2⟩
      have S2 := Lib.hid (S1.out.bel (hb2))
      clear hb2
      clear c0 f0 d0 g0 c1 f1 d1 g1 c2 f2 d2 g2 c3 f3 d3 g3 c4 f4 d4 g4 c5 f5 d5 g5 c6 f6 d6 g6 c7 f7 d7 g7 c8 f8 d8 g8
      have hA := S2.out.1
      have hB := S2.out.2.1
      obtain ⟨c0, f0⟩ := hA.one 0 rfl
      obtain ⟨c1, f1⟩ := hA.one 1 rfl
      obtain ⟨c2, f2⟩ := hA.one 2 rfl
      obtain ⟨c3, f3⟩ := hA.one 3 rfl
      obtain ⟨c4, f4⟩ := hA.one 4 rfl
      obtain ⟨c5, f5⟩ := hA.one 5 rfl
      obtain ⟨c6, f6⟩ := hA.one 6 rfl
      obtain ⟨c7, f7⟩ := hA.one 7 rfl
      obtain ⟨c8, f8⟩ := hA.one 8 rfl
      obtain ⟨d0, g0⟩ := hB.one 0 rfl
      obtain ⟨d1, g1⟩ := hB.one 1 rfl
      obtain ⟨d2, g2⟩ := hB.one 2 rfl
      obtain ⟨d3, g3⟩ := hB.one 3 rfl
      obtain ⟨d4, g4⟩ := hB.one 4 rfl
      obtain ⟨d5, g5⟩ := hB.one 5 rfl
      obtain ⟨d6, g6⟩ := hB.one 6 rfl
      obtain ⟨d7, g7⟩ := hB.one 7 rfl
      obtain ⟨d8, g8⟩ := hB.one 8 rfl
      clear hA hB
      go_wp2_with fail
      refine hK.out _ _ _ (fun u hu => hu) (⟨c0, c1, c2, c3, c4, c5, c6, c7, c8, d0, d1, d2, d3, d4, d5, d6, d7, d8⟩) ?_
      clear hK K
      refine mv_step (fun K hK => ?_)
      go_simp
      refine (RD.out _).mono ?_
      rintro e w3 ⟨rfl, hb3⟩
      have S3 := Lib.hid (S2.out.bel (hb3))
      clear hb3
      clear c0 f0 d0 g0 c1 f1 d1 g1 c2 f2 d2 g2 c3 f3 d3 g3 c4 f4 d4 g4 c5 f5 d5 g5 c6 f6 d6 g6 c7 f7 d7 g7 c8 f8 d8 g8
      have hA := S3.out.1
      have hB := S3.out.2.1
      obtain ⟨c0, f0⟩ := hA.one 0 rfl
      obtain ⟨c1, f1⟩ := hA.one 1 rfl
      obtain ⟨c2, f2⟩ := hA.one 2 rfl
      obtain ⟨c3, f3⟩ := hA.one 3 rfl
      obtain ⟨c4, f4⟩ := hA.one 4 rfl
      obtain ⟨c5, f5⟩ := hA.one 5 rfl
      obtain ⟨c6, f6⟩ := hA.one 6 rfl
      obtain ⟨c7, f7⟩ := hA.one 7 rfl
      obtain ⟨c8, f8⟩ := hA.one 8 rfl
      obtain ⟨d0, g0⟩ := hB.one 0 rfl
      obtain ⟨d1, g1⟩ := hB.one 1 rfl
      obtain ⟨d2, g2⟩ := hB.one 2 rfl
      obtain ⟨d3, g3⟩ := hB.one 3 rfl
      obtain ⟨d4, g4⟩ := hB.one 4 rfl
      obtain ⟨d5, g5⟩ := hB.one 5 rfl
      obtain ⟨d6, g6⟩ := hB.one 6 rfl
      obtain ⟨d7, g7⟩ := hB.one 7 rfl
      obtain ⟨d8, g8⟩ := hB.one 8 rfl
      clear hA hB
      have ck := S3.out.2.2.2.1.c 1 _ (mC_at (mul A B) _ _ (by omega))
      have fk := S3.out.2.2.2.1.f 1 (by rw [mC_len]; omega)
      have S4 := Lib.hid (S3.out.step (by omega))
      generalize mul A B 1 = x at *
      go_wp2_with fail
      refine hK.out _ _ _ (fun u hu => hu) (⟨c0, c1, c2, c3, c4, c5, c6, c7, c8, d0, d1, d2, d3, d4, d5, d6, d7, d8⟩) ?_
      clear hK K
      iterate 1
        first
          | (refine mv_free ?_ (Or.inl ⟨by rfl, ?_⟩) (⟨c0, c1, c2, c3, c4, c5, c6, c7, c8, d0, d1, d2, d3, d4, d5, d6, d7, d8⟩) ?_
             rotate_left 1
             · intro u
               go_simp
               try simp only [d1]
               try simp only [d2]
               try simp only [d3]
               try with_reducible rfl
             simp only [Act.put, List.setIfInBounds_toArray, List.set_cons_zero, List.set_cons_succ])
          | (refine mv_free _ (Or.inr ⟨by rfl, rfl⟩) (⟨c0, c1, c2, c3, c4, c5, c6, c7, c8, d0, d1, d2, d3, d4, d5, d6, d7, d8⟩) ?_
             simp only [Act.put, List.setIfInBounds_toArray, List.set_cons_zero, List.set_cons_succ])
      refine mv_late (fun K hK => ?_)
      go_simp
      refine hK.out (fun _ => True) _ _ ?_
      clear hK K
      refine mv_done ?_
      generalize w3.setCell ⟨w.heap.size + 3, 1, none⟩ (.int .i64 x) = w4 at *
      go_wp2
      go_roundw
      case rel => exact ⟨1 + 1, by omega, by first | rfl | go_num, S4⟩
      case measure => simp [intOf]
    · have RR := Lib.hid (fun u => rrow0 A u)
      have RC := Lib.hid (fun u => rcol2 B u)
      have RD := Lib.hid (fun u => show Calls Try.prog 33 #[.agg #[.int .i64 (A 0), .int .i64 (A 1), .int .i64 (A 2)], .agg #[.int .i64 (B 2), .int .i64 (B 5), .int .i64 (B 8)]] u fun e w' => e = .returned (.int .i64 (mul A B 2)) ∧ Below u.heap.size u w' from rdot12 (A 0) (A 1) (A 2) (B 2) (B 5) (B 8) u)
      have hA := S.out.1
      have hB := S.out.2.1
      obtain ⟨c0, f0⟩ := hA.one 0 rfl
      obtain ⟨c1, f1⟩ := hA.one 1 rfl
      obtain ⟨c2, f2⟩ := hA.one 2 rfl
      obtain ⟨c3, f3⟩ := hA.one 3 rfl
      obtain ⟨c4, f4⟩ := hA.one 4 rfl
      obtain ⟨c5, f5⟩ := hA.one 5 rfl
      obtain ⟨c6, f6⟩ := hA.one 6 rfl
      obtain ⟨c7, f7⟩ := hA.one 7 rfl
      obtain ⟨c8, f8⟩ := hA.one 8 rfl
      obtain ⟨d0, g0⟩ := hB.one 0 rfl
      obtain ⟨d1, g1⟩ := hB.one 1 rfl
      obtain ⟨d2, g2⟩ := hB.one 2 rfl
      obtain ⟨d3, g3⟩ := hB.one 3 rfl
      obtain ⟨d4, g4⟩ := hB.one 4 rfl
      obtain ⟨d5, g5⟩ := hB.one 5 rfl
      obtain ⟨d6, g6⟩ := hB.one 6 rfl
      obtain ⟨d7, g7⟩ := hB.one 7 rfl
      obtain ⟨d8, g8⟩ := hB.one 8 rfl
      clear hA hB
      go_wp2_with fail
      refine region_moves (fun u => u.cell? ⟨w.heap.size, 0, none⟩ = some (.int .i64 (A 0)) ∧ u.cell? ⟨w.heap.size, 1, none⟩ = some (.int .i64 (A 1)) ∧ u.cell? ⟨w.heap.size, 2, none⟩ = some (.int .i64 (A 2)) ∧ u.cell? ⟨w.heap.size, 3, none⟩ = some (.int .i64 (A 3)) ∧ u.cell? ⟨w.heap.size, 4, none⟩ = some (.int .i64 (A 4)) ∧ u.cell? ⟨w.heap.size, 5, none⟩ = some (.int .i64 (A 5)) ∧ u.cell? ⟨w.heap.size, 6, none⟩ = some (.int .i64 (A 6)) ∧ u.cell? ⟨w.heap.size, 7, none⟩ = some (.int .i64 (A 7)) ∧ u.cell? ⟨w.heap.size, 8, none⟩ = some (.int .i64 (A 8)) ∧ u.cell? ⟨w.heap.size + 1, 0, none⟩ = some (.int .i64 (B 0)) ∧ u.cell? ⟨w.heap.size + 1, 1, none⟩ = some (.int .i64 (B 1)) ∧ u.cell? ⟨w.heap.size + 1, 2, none⟩ = some (.int .i64 (B 2)) ∧ u.cell? ⟨w.heap.size + 1, 3, none⟩ = some (.int .i64 (B 3)) ∧ u.cell? ⟨w.heap.size + 1, 4, none⟩ = some (.int .i64 (B 4)) ∧ u.cell? ⟨w.heap.size + 1, 5, none⟩ = some (.int .i64 (B 5)) ∧ u.cell? ⟨w.heap.size + 1, 6, none⟩ = some (.int .i64 (B 6)) ∧ u.cell? ⟨w.heap.size + 1, 7, none⟩ = some (.int .i64 (B 7)) ∧ u.cell? ⟨w.heap.size + 1, 8, none⟩ = some (.int .i64 (B 8))) [(11, [(10, 11), (9, 11), (0, 11), (1, 11), (2, 11), (3, 11), (4, 11), (5, 11), (6, 11), (7, 11), (8, 11)])] [(.free, 0), (.take, 1), (.free, 2), (.free, 3), (.take, 5), (.free, 6), (.free, 7), (.step, 4), (.step, 8), (.step, 9), (.free, 10), (.late, 11)] _ (by kernel_rfl) (by kernel_rfl) (by kernel_rfl) (by kernel_rfl) (by decide) rfl (fun _ _ _ _ _ h => h) ?_
      simp only [List.filterMap_cons, List.filterMap_nil, List.getElem?_toArray, List.getElem?_cons_zero, List.getElem?_cons_succ, Option.map_some]
      iterate 1
        first
          | (refine mv_free ?_ (Or.inl ⟨by rfl, ?_⟩) (⟨c0, c1, c2, c3, c4, c5, c6, c7, c8, d0, d1, d2, d3, d4, d5, d6, d7, d8⟩) ?_
             rotate_left 1
             · intro u
               go_simp
               try simp only [d1]
               try simp only [d2]
               try simp only [d3]
               try with_reducible rfl
             simp only [Act.put, List.setIfInBounds_toArray, List.set_cons_zero, List.set_cons_succ])
          | (refine mv_free _ (Or.inr ⟨by rfl, rfl⟩) (⟨c0, c1, c2, c3, c4, c5, c6, c7, c8, d0, d1, d2, d3, d4, d5, d6, d7, d8⟩) ?_
             simp only [Act.put, List.setIfInBounds_toArray, List.set_cons_zero, List.set_cons_succ])
      iterate 1
        first
          | (refine mv_take ?_ (Or.inl ⟨by rfl, ?_⟩) (⟨c0, c1, c2, c3, c4, c5, c6, c7, c8, d0, d1, d2, d3, d4, d5, d6, d7, d8⟩) ?_
             rotate_left 1
             · intro u hu
               (try dsimp only at hu)
               go_simp
               try with_reducible rfl
             simp only [Act.put, List.setIfInBounds_toArray, List.set_cons_zero, List.set_cons_succ])
          | (refine mv_take _ (Or.inr ⟨by rfl, rfl⟩) (⟨c0, c1, c2, c3, c4, c5, c6, c7, c8, d0, d1, d2, d3, d4, d5, d6, d7, d8⟩) ?_
             simp only [Act.put, List.setIfInBounds_toArray, List.set_cons_zero, List.set_cons_succ])
      iterate 2
        first
          | (refine mv_free ?_ (Or.inl ⟨by rfl, ?_⟩) (⟨c0, c1, c2, c3, c4, c5, c6, c7, c8, d0, d1, d2, d3, d4, d5, d6, d7, d8⟩) ?_
             rotate_left 1
             · intro u
               go_simp
               try simp only [d1]
               try simp only [d2]
               try simp only [d3]
               try with_reducible rfl
             simp only [Act.put, List.setIfInBounds_toArray, List.set_cons_zero, List.set_cons_succ])
          | (refine mv_free _ (Or.inr ⟨by rfl, rfl⟩) (⟨c0, c1, c2, c3, c4, c5, c6, c7, c8, d0, d1, d2, d3, d4, d5, d6, d7, d8⟩) ?_
             simp only [Act.put, List.setIfInBounds_toArray, List.set_cons_zero, List.set_cons_succ])
      iterate 1
        first
          | (refine mv_take ?_ (Or.inl ⟨by rfl, ?_⟩) (⟨c0, c1, c2, c3, c4, c5, c6, c7, c8, d0, d1, d2, d3, d4, d5, d6, d7, d8⟩) ?_
             rotate_left 1
             · intro u hu
               (try dsimp only at hu)
               go_simp
               try with_reducible rfl
             simp only [Act.put, List.setIfInBounds_toArray, List.set_cons_zero, List.set_cons_succ])
          | (refine mv_take _ (Or.inr ⟨by rfl, rfl⟩) (⟨c0, c1, c2, c3, c4, c5, c6, c7, c8, d0, d1, d2, d3, d4, d5, d6, d7, d8⟩) ?_
             simp only [Act.put, List.setIfInBounds_toArray, List.set_cons_zero, List.set_cons_succ])
      iterate 2
        first
          | (refine mv_free ?_ (Or.inl ⟨by rfl, ?_⟩) (⟨c0, c1, c2, c3, c4, c5, c6, c7, c8, d0, d1, d2, d3, d4, d5, d6, d7, d8⟩) ?_
             rotate_left 1
             · intro u
               go_simp
               try simp only [d1]
               try simp only [d2]
               try simp only [d3]
               try with_reducible rfl
             simp only [Act.put, List.setIfInBounds_toArray, List.set_cons_zero, List.set_cons_succ])
          | (refine mv_free _ (Or.inr ⟨by rfl, rfl⟩) (⟨c0, c1, c2, c3, c4, c5, c6, c7, c8, d0, d1, d2, d3, d4, d5, d6, d7, d8⟩) ?_
             simp only [Act.put, List.setIfInBounds_toArray, List.set_cons_zero, List.set_cons_succ])
      refine mv_step (fun K hK => ?_)
      go_simp
      refine (RR.out _).mono ?_
      rintro e w1 ⟨rfl, hb1⟩
      have S1 := Lib.hid (S.out.bel ((Below.refl _ _).drew.trans hb1))
      clear hb1
      clear c0 f0 d0 g0 c1 f1 d1 g1 c2 f2 d2 g2 c3 f3 d3 g3 c4 f4 d4 g4 c5 f5 d5 g5 c6 f6 d6 g6 c7 f7 d7 g7 c8 f8 d8 g8
      have hA := S1.out.1
      have hB := S1.out.2.1
      obtain ⟨c0, f0⟩ := hA.one 0 rfl
      obtain ⟨c1, f1⟩ := hA.one 1 rfl
      obtain ⟨c2, f2⟩ := hA.one 2 rfl
      obtain ⟨c3, f3⟩ := hA.one 3 rfl
      obtain ⟨c4, f4⟩ := hA.one 4 rfl
      obtain ⟨c5, f5⟩ := hA.one 5 rfl
      obtain ⟨c6, f6⟩ := hA.one 6 rfl
      obtain ⟨c7, f7⟩ := hA.one 7 rfl
      obtain ⟨c8, f8⟩ := hA.one 8 rfl
      obtain ⟨d0, g0⟩ := hB.one 0 rfl
      obtain ⟨d1, g1⟩ := hB.one 1 rfl
      obtain ⟨d2, g2⟩ := hB.one 2 rfl
      obtain ⟨d3, g3⟩ := hB.one 3 rfl
      obtain ⟨d4, g4⟩ := hB.one 4 rfl
      obtain ⟨d5, g5⟩ := hB.one 5 rfl
      obtain ⟨d6, g6⟩ := hB.one 6 rfl
      obtain ⟨d7, g7⟩ := hB.one 7 rfl
      obtain ⟨d8, g8⟩ := hB.one 8 rfl
      clear hA hB
      go_wp2_with fail
      refine hK.out _ _ _ (fun u hu => hu) (⟨c0, c1, c2, c3, c4, c5, c6, c7, c8, d0, d1, d2, d3, d4, d5, d6, d7, d8⟩) ?_
      clear hK K
      refine mv_step (fun K hK => ?_)
      go_simp
      refine (RC.out _).mono ?_
      rintro e w2 ⟨rfl, hb2⟩
      have S2 := Lib.hid (S1.out.bel (hb2))
      clear hb2
      clear c0 f0 d0 g0 c1 f1 d1 g1 c2 f2 d2 g2 c3 f3 d3 g3 c4 f4 d4 g4 c5 f5 d5 g5 c6 f6 d6 g6 c7 f7 d7 g7 c8 f8 d8 g8
      have hA := S2.out.1
      have hB := S2.out.2.1
      obtain ⟨c0, f0⟩ := hA.one 0 rfl
      obtain ⟨c1, f1⟩ := hA.one 1 rfl
      obtain ⟨c2, f2⟩ := hA.one 2 rfl
      obtain ⟨c3, f3⟩ := hA.one 3 rfl
      obtain ⟨c4, f4⟩ := hA.one 4 rfl
      obtain ⟨c5, f5⟩ := hA.one 5 rfl
      obtain ⟨c6, f6⟩ := hA.one 6 rfl
      obtain ⟨c7, f7⟩ := hA.one 7 rfl
      obtain ⟨c8, f8⟩ := hA.one 8 rfl
      obtain ⟨d0, g0⟩ := hB.one 0 rfl
      obtain ⟨d1, g1⟩ := hB.one 1 rfl
      obtain ⟨d2, g2⟩ := hB.one 2 rfl
      obtain ⟨d3, g3⟩ := hB.one 3 rfl
      obtain ⟨d4, g4⟩ := hB.one 4 rfl
      obtain ⟨d5, g5⟩ := hB.one 5 rfl
      obtain ⟨d6, g6⟩ := hB.one 6 rfl
      obtain ⟨d7, g7⟩ := hB.one 7 rfl
      obtain ⟨d8, g8⟩ := hB.one 8 rfl
      clear hA hB
      go_wp2_with fail
      refine hK.out _ _ _ (fun u hu => hu) (⟨c0, c1, c2, c3, c4, c5, c6, c7, c8, d0, d1, d2, d3, d4, d5, d6, d7, d8⟩) ?_
      clear hK K
      refine mv_step (fun K hK => ?_)
      go_simp
      refine (RD.out _).mono ?_
      rintro e w3 ⟨rfl, hb3⟩
      have S3 := Lib.hid (S2.out.bel (hb3))
      clear hb3
      clear c0 f0 d0 g0 c1 f1 d1 g1 c2 f2 d2 g2 c3 f3 d3 g3 c4 f4 d4 g4 c5 f5 d5 g5 c6 f6 d6 g6 c7 f7 d7 g7 c8 f8 d8 g8
      have hA := S3.out.1
      have hB := S3.out.2.1
      obtain ⟨c0, f0⟩ := hA.one 0 rfl
      obtain ⟨c1, f1⟩ := hA.one 1 rfl
      obtain ⟨c2, f2⟩ := hA.one 2 rfl
      obtain ⟨c3, f3⟩ := hA.one 3 rfl
      obtain ⟨c4, f4⟩ := hA.one 4 rfl
      obtain ⟨c5, f5⟩ := hA.one 5 rfl
      obtain ⟨c6, f6⟩ := hA.one 6 rfl
      obtain ⟨c7, f7⟩ := hA.one 7 rfl
      obtain ⟨c8, f8⟩ := hA.one 8 rfl
      obtain ⟨d0, g0⟩ := hB.one 0 rfl
      obtain ⟨d1, g1⟩ := hB.one 1 rfl
      obtain ⟨d2, g2⟩ := hB.one 2 rfl
      obtain ⟨d3, g3⟩ := hB.one 3 rfl
      obtain ⟨d4, g4⟩ := hB.one 4 rfl
      obtain ⟨d5, g5⟩ := hB.one 5 rfl
      obtain ⟨d6, g6⟩ := hB.one 6 rfl
      obtain ⟨d7, g7⟩ := hB.one 7 rfl
      obtain ⟨d8, g8⟩ := hB.one 8 rfl
      clear hA hB
      have ck := S3.out.2.2.2.1.c 2 _ (mC_at (mul A B) _ _ (by omega))
      have fk := S3.out.2.2.2.1.f 2 (by rw [mC_len]; omega)
      have S4 := Lib.hid (S3.out.step (by omega))
      generalize mul A B 2 = x at *
      go_wp2_with fail
      refine hK.out _ _ _ (fun u hu => hu) (⟨c0, c1, c2, c3, c4, c5, c6, c7, c8, d0, d1, d2, d3, d4, d5, d6, d7, d8⟩) ?_
      clear hK K
      iterate 1
        first
          | (refine mv_free ?_ (Or.inl ⟨by rfl, ?_⟩) (⟨c0, c1, c2, c3, c4, c5, c6, c7, c8, d0, d1, d2, d3, d4, d5, d6, d7, d8⟩) ?_
             rotate_left 1
             · intro u
               go_simp
               try simp only [d1]
               try simp only [d2]
               try simp only [d3]
               try with_reducible rfl
             simp only [Act.put, List.setIfInBounds_toArray, List.set_cons_zero, List.set_cons_succ])
          | (refine mv_free _ (Or.inr ⟨by rfl, rfl⟩) (⟨c0, c1, c2, c3, c4, c5, c6, c7, c8, d0, d1, d2, d3, d4, d5, d6, d7, d8⟩) ?_
             simp only [Act.put, List.setIfInBounds_toArray, List.set_cons_zero, List.set_cons_succ])
      refine mv_late (fun K hK => ?_)
      go_simp
      refine hK.out (fun _ => True) _ _ ?_
      clear hK K
      refine mv_done ?_
      generalize w3.setCell ⟨w.heap.size + 3, 2, none⟩ (.int .i64 x) = w4 at *
      go_wp2
      go_roundw
      case rel => exact ⟨2 + 1, by omega, by first | rfl | go_num, S4⟩
      case measure => simp [intOf]
    · have RR := Lib.hid (fun u => rrow1 A u)
      have RC := Lib.hid (fun u => rcol0 B u)
      have RD := Lib.hid (fun u => show Calls Try.prog 33 #[.agg #[.int .i64 (A 3), .int .i64 (A 4), .int .i64 (A 5)], .agg #[.int .i64 (B 0), .int .i64 (B 3), .int .i64 (B 6)]] u fun e w' => e = .returned (.int .i64 (mul A B 3)) ∧ Below u.heap.size u w' from rdot12 (A 3) (A 4) (A 5) (B 0) (B 3) (B 6) u)
      have hA := S.out.1
      have hB := S.out.2.1
      obtain ⟨c0, f0⟩ := hA.one 0 rfl
      obtain ⟨c1, f1⟩ := hA.one 1 rfl
      obtain ⟨c2, f2⟩ := hA.one 2 rfl
      obtain ⟨c3, f3⟩ := hA.one 3 rfl
      obtain ⟨c4, f4⟩ := hA.one 4 rfl
      obtain ⟨c5, f5⟩ := hA.one 5 rfl
      obtain ⟨c6, f6⟩ := hA.one 6 rfl
      obtain ⟨c7, f7⟩ := hA.one 7 rfl
      obtain ⟨c8, f8⟩ := hA.one 8 rfl
      obtain ⟨d0, g0⟩ := hB.one 0 rfl
      obtain ⟨d1, g1⟩ := hB.one 1 rfl
      obtain ⟨d2, g2⟩ := hB.one 2 rfl
      obtain ⟨d3, g3⟩ := hB.one 3 rfl
      obtain ⟨d4, g4⟩ := hB.one 4 rfl
      obtain ⟨d5, g5⟩ := hB.one 5 rfl
      obtain ⟨d6, g6⟩ := hB.one 6 rfl
      obtain ⟨d7, g7⟩ := hB.one 7 rfl
      obtain ⟨d8, g8⟩ := hB.one 8 rfl
      clear hA hB
      go_wp2_with fail
      refine region_moves (fun u => u.cell? ⟨w.heap.size, 0, none⟩ = some (.int .i64 (A 0)) ∧ u.cell? ⟨w.heap.size, 1, none⟩ = some (.int .i64 (A 1)) ∧ u.cell? ⟨w.heap.size, 2, none⟩ = some (.int .i64 (A 2)) ∧ u.cell? ⟨w.heap.size, 3, none⟩ = some (.int .i64 (A 3)) ∧ u.cell? ⟨w.heap.size, 4, none⟩ = some (.int .i64 (A 4)) ∧ u.cell? ⟨w.heap.size, 5, none⟩ = some (.int .i64 (A 5)) ∧ u.cell? ⟨w.heap.size, 6, none⟩ = some (.int .i64 (A 6)) ∧ u.cell? ⟨w.heap.size, 7, none⟩ = some (.int .i64 (A 7)) ∧ u.cell? ⟨w.heap.size, 8, none⟩ = some (.int .i64 (A 8)) ∧ u.cell? ⟨w.heap.size + 1, 0, none⟩ = some (.int .i64 (B 0)) ∧ u.cell? ⟨w.heap.size + 1, 1, none⟩ = some (.int .i64 (B 1)) ∧ u.cell? ⟨w.heap.size + 1, 2, none⟩ = some (.int .i64 (B 2)) ∧ u.cell? ⟨w.heap.size + 1, 3, none⟩ = some (.int .i64 (B 3)) ∧ u.cell? ⟨w.heap.size + 1, 4, none⟩ = some (.int .i64 (B 4)) ∧ u.cell? ⟨w.heap.size + 1, 5, none⟩ = some (.int .i64 (B 5)) ∧ u.cell? ⟨w.heap.size + 1, 6, none⟩ = some (.int .i64 (B 6)) ∧ u.cell? ⟨w.heap.size + 1, 7, none⟩ = some (.int .i64 (B 7)) ∧ u.cell? ⟨w.heap.size + 1, 8, none⟩ = some (.int .i64 (B 8))) [(11, [(10, 11), (9, 11), (0, 11), (1, 11), (2, 11), (3, 11), (4, 11), (5, 11), (6, 11), (7, 11), (8, 11)])] [(.free, 0), (.take, 1), (.free, 2), (.free, 3), (.take, 5), (.free, 6), (.free, 7), (.step, 4), (.step, 8), (.step, 9), (.free, 10), (.late, 11)] _ (by kernel_rfl) (by kernel_rfl) (by kernel_rfl) (by kernel_rfl) (by decide) rfl (fun _ _ _ _ _ h => h) ?_
      simp only [List.filterMap_cons, List.filterMap_nil, List.getElem?_toArray, List.getElem?_cons_zero, List.getElem?_cons_succ, Option.map_some]
      iterate 1
        first
          | (refine mv_free ?_ (Or.inl ⟨by rfl, ?_⟩) (⟨c0, c1, c2, c3, c4, c5, c6, c7, c8, d0, d1, d2, d3, d4, d5, d6, d7, d8⟩) ?_
             rotate_left 1
             · intro u
               go_simp
               try simp only [d1]
               try simp only [d2]
               try simp only [d3]
               try with_reducible rfl
             simp only [Act.put, List.setIfInBounds_toArray, List.set_cons_zero, List.set_cons_succ])
          | (refine mv_free _ (Or.inr ⟨by rfl, rfl⟩) (⟨c0, c1, c2, c3, c4, c5, c6, c7, c8, d0, d1, d2, d3, d4, d5, d6, d7, d8⟩) ?_
             simp only [Act.put, List.setIfInBounds_toArray, List.set_cons_zero, List.set_cons_succ])
      iterate 1
        first
          | (refine mv_take ?_ (Or.inl ⟨by rfl, ?_⟩) (⟨c0, c1, c2, c3, c4, c5, c6, c7, c8, d0, d1, d2, d3, d4, d5, d6, d7, d8⟩) ?_
             rotate_left 1
             · intro u hu
               (try dsimp only at hu)
               go_simp
               try with_reducible rfl
             simp only [Act.put, List.setIfInBounds_toArray, List.set_cons_zero, List.set_cons_succ])
          | (refine mv_take _ (Or.inr ⟨by rfl, rfl⟩) (⟨c0, c1, c2, c3, c4, c5, c6, c7, c8, d0, d1, d2, d3, d4, d5, d6, d7, d8⟩) ?_
             simp only [Act.put, List.setIfInBounds_toArray, List.set_cons_zero, List.set_cons_succ])
      iterate 2
        first
          | (refine mv_free ?_ (Or.inl ⟨by rfl, ?_⟩) (⟨c0, c1, c2, c3, c4, c5, c6, c7, c8, d0, d1, d2, d3, d4, d5, d6, d7, d8⟩) ?_
             rotate_left 1
             · intro u
               go_simp
               try simp only [d1]
               try simp only [d2]
               try simp only [d3]
               try with_reducible rfl
             simp only [Act.put, List.setIfInBounds_toArray, List.set_cons_zero, List.set_cons_succ])
          | (refine mv_free _ (Or.inr ⟨by rfl, rfl⟩) (⟨c0, c1, c2, c3, c4, c5, c6, c7, c8, d0, d1, d2, d3, d4, d5, d6, d7, d8⟩) ?_
             simp only [Act.put, List.setIfInBounds_toArray, List.set_cons_zero, List.set_cons_succ])
      iterate 1
        first
          | (refine mv_take ?_ (Or.inl ⟨by rfl, ?_⟩) (⟨c0, c1, c2, c3, c4, c5, c6, c7, c8, d0, d1, d2, d3, d4, d5, d6, d7, d8⟩) ?_
             rotate_left 1
             · intro u hu
               (try dsimp only at hu)
               go_simp
               try with_reducible rfl
             simp only [Act.put, List.setIfInBounds_toArray, List.set_cons_zero, List.set_cons_succ])
          | (refine mv_take _ (Or.inr ⟨by rfl, rfl⟩) (⟨c0, c1, c2, c3, c4, c5, c6, c7, c8, d0, d1, d2, d3, d4, d5, d6, d7, d8⟩) ?_
             simp only [Act.put, List.setIfInBounds_toArray, List.set_cons_zero, List.set_cons_succ])
      iterate 2
        first
          | (refine mv_free ?_ (Or.inl ⟨by rfl, ?_⟩) (⟨c0, c1, c2, c3, c4, c5, c6, c7, c8, d0, d1, d2, d3, d4, d5, d6, d7, d8⟩) ?_
             rotate_left 1
             · intro u
               go_simp
               try simp only [d1]
               try simp only [d2]
               try simp only [d3]
               try with_reducible rfl
             simp only [Act.put, List.setIfInBounds_toArray, List.set_cons_zero, List.set_cons_succ])
          | (refine mv_free _ (Or.inr ⟨by rfl, rfl⟩) (⟨c0, c1, c2, c3, c4, c5, c6, c7, c8, d0, d1, d2, d3, d4, d5, d6, d7, d8⟩) ?_
             simp only [Act.put, List.setIfInBounds_toArray, List.set_cons_zero, List.set_cons_succ])
      refine mv_step (fun K hK => ?_)
      go_simp
      refine (RR.out _).mono ?_
      rintro e w1 ⟨rfl, hb1⟩
      have S1 := Lib.hid (S.out.bel ((Below.refl _ _).drew.trans hb1))
      clear hb1
      clear c0 f0 d0 g0 c1 f1 d1 g1 c2 f2 d2 g2 c3 f3 d3 g3 c4 f4 d4 g4 c5 f5 d5 g5 c6 f6 d6 g6 c7 f7 d7 g7 c8 f8 d8 g8
      have hA := S1.out.1
      have hB := S1.out.2.1
      obtain ⟨c0, f0⟩ := hA.one 0 rfl
      obtain ⟨c1, f1⟩ := hA.one 1 rfl
      obtain ⟨c2, f2⟩ := hA.one 2 rfl
      obtain ⟨c3, f3⟩ := hA.one 3 rfl
      obtain ⟨c4, f4⟩ := hA.one 4 rfl
      obtain ⟨c5, f5⟩ := hA.one 5 rfl
      obtain ⟨c6, f6⟩ := hA.one 6 rfl
      obtain ⟨c7, f7⟩ := hA.one 7 rfl
      obtain ⟨c8, f8⟩ := hA.one 8 rfl
      obtain ⟨d0, g0⟩ := hB.one 0 rfl
      obtain ⟨d1, g1⟩ := hB.one 1 rfl
      obtain ⟨d2, g2⟩ := hB.one 2 rfl
      obtain ⟨d3, g3⟩ := hB.one 3 rfl
      obtain ⟨d4, g4⟩ := hB.one 4 rfl
      obtain ⟨d5, g5⟩ := hB.one 5 rfl
      obtain ⟨d6, g6⟩ := hB.one 6 rfl
      obtain ⟨d7, g7⟩ := hB.one 7 rfl
      obtain ⟨d8, g8⟩ := hB.one 8 rfl
      clear hA hB
      go_wp2_with fail
      refine hK.out _ _ _ (fun u hu => hu) (⟨c0, c1, c2, c3, c4, c5, c6, c7, c8, d0, d1, d2, d3, d4, d5, d6, d7, d8⟩) ?_
      clear hK K
      refine mv_step (fun K hK => ?_)
      go_simp
      refine (RC.out _).mono ?_
      rintro e w2 ⟨rfl, hb2⟩
      have S2 := Lib.hid (S1.out.bel (hb2))
      clear hb2
      clear c0 f0 d0 g0 c1 f1 d1 g1 c2 f2 d2 g2 c3 f3 d3 g3 c4 f4 d4 g4 c5 f5 d5 g5 c6 f6 d6 g6 c7 f7 d7 g7 c8 f8 d8 g8
      have hA := S2.out.1
      have hB := S2.out.2.1
      obtain ⟨c0, f0⟩ := hA.one 0 rfl
      obtain ⟨c1, f1⟩ := hA.one 1 rfl
      obtain ⟨c2, f2⟩ := hA.one 2 rfl
      obtain ⟨c3, f3⟩ := hA.one 3 rfl
      obtain ⟨c4, f4⟩ := hA.one 4 rfl
      obtain ⟨c5, f5⟩ := hA.one 5 rfl
      obtain ⟨c6, f6⟩ := hA.one 6 rfl
      obtain ⟨c7, f7⟩ := hA.one 7 rfl
      obtain ⟨c8, f8⟩ := hA.one 8 rfl
      obtain ⟨d0, g0⟩ := hB.one 0 rfl
      obtain ⟨d1, g1⟩ := hB.one 1 rfl
      obtain ⟨d2, g2⟩ := hB.one 2 rfl
      obtain ⟨d3, g3⟩ := hB.one 3 rfl
      obtain ⟨d4, g4⟩ := hB.one 4 rfl
      obtain ⟨d5, g5⟩ := hB.one 5 rfl
      obtain ⟨d6, g6⟩ := hB.one 6 rfl
      obtain ⟨d7, g7⟩ := hB.one 7 rfl
      obtain ⟨d8, g8⟩ := hB.one 8 rfl
      clear hA hB
      go_wp2_with fail
      refine hK.out _ _ _ (fun u hu => hu) (⟨c0, c1, c2, c3, c4, c5, c6, c7, c8, d0, d1, d2, d3, d4, d5, d6, d7, d8⟩) ?_
      clear hK K
      refine mv_step (fun K hK => ?_)
      go_simp
      refine (RD.out _).mono ?_
      rintro e w3 ⟨rfl, hb3⟩
      have S3 := Lib.hid (S2.out.bel (hb3))
      clear hb3
      clear c0 f0 d0 g0 c1 f1 d1 g1 c2 f2 d2 g2 c3 f3 d3 g3 c4 f4 d4 g4 c5 f5 d5 g5 c6 f6 d6 g6 c7 f7 d7 g7 c8 f8 d8 g8
      have hA := S3.out.1
      have hB := S3.out.2.1
      obtain ⟨c0, f0⟩ := hA.one 0 rfl
      obtain ⟨c1, f1⟩ := hA.one 1 rfl
      obtain ⟨c2, f2⟩ := hA.one 2 rfl
      obtain ⟨c3, f3⟩ := hA.one 3 rfl
      obtain ⟨c4, f4⟩ := hA.one 4 rfl
      obtain ⟨c5, f5⟩ := hA.one 5 rfl
      obtain ⟨c6, f6⟩ := hA.one 6 rfl
      obtain ⟨c7, f7⟩ := hA.one 7 rfl
      obtain ⟨c8, f8⟩ := hA.one 8 rfl
      obtain ⟨d0, g0⟩ := hB.one 0 rfl
      obtain ⟨d1, g1⟩ := hB.one 1 rfl
      obtain ⟨d2, g2⟩ := hB.one 2 rfl
      obtain ⟨d3, g3⟩ := hB.one 3 rfl
      obtain ⟨d4, g4⟩ := hB.one 4 rfl
      obtain ⟨d5, g5⟩ := hB.one 5 rfl
      obtain ⟨d6, g6⟩ := hB.one 6 rfl
      obtain ⟨d7, g7⟩ := hB.one 7 rfl
      obtain ⟨d8, g8⟩ := hB.one 8 rfl
      clear hA hB
      have ck := S3.out.2.2.2.1.c 3 _ (mC_at (mul A B) _ _ (by omega))
      have fk := S3.out.2.2.2.1.f 3 (by rw [mC_len]; omega)
      have S4 := Lib.hid (S3.out.step (by omega))
      generalize mul A B 3 = x at *
      go_wp2_with fail
      refine hK.out _ _ _ (fun u hu => hu) (⟨c0, c1, c2, c3, c4, c5, c6, c7, c8, d0, d1, d2, d3, d4, d5, d6, d7, d8⟩) ?_
      clear hK K
      iterate 1
        first
          | (refine mv_free ?_ (Or.inl ⟨by rfl, ?_⟩) (⟨c0, c1, c2, c3, c4, c5, c6, c7, c8, d0, d1, d2, d3, d4, d5, d6, d7, d8⟩) ?_
             rotate_left 1
             · intro u
               go_simp
               try simp only [d1]
               try simp only [d2]
               try simp only [d3]
               try with_reducible rfl
             simp only [Act.put, List.setIfInBounds_toArray, List.set_cons_zero, List.set_cons_succ])
          | (refine mv_free _ (Or.inr ⟨by rfl, rfl⟩) (⟨c0, c1, c2, c3, c4, c5, c6, c7, c8, d0, d1, d2, d3, d4, d5, d6, d7, d8⟩) ?_
             simp only [Act.put, List.setIfInBounds_toArray, List.set_cons_zero, List.set_cons_succ])
      refine mv_late (fun K hK => ?_)
      go_simp
      refine hK.out (fun _ => True) _ _ ?_
      clear hK K
      refine mv_done ?_
      generalize w3.setCell ⟨w.heap.size + 3, 3, none⟩ (.int .i64 x) = w4 at *
      go_wp2
      go_roundw
      case rel => exact ⟨3 + 1, by omega, by first | rfl | go_num, S4⟩
      case measure => simp [intOf]
    · have RR := Lib.hid (fun u => rrow1 A u)
      have RC := Lib.hid (fun u => rcol1 B u)
      have RD := Lib.hid (fun u => show Calls Try.prog 33 #[.agg #[.int .i64 (A 3), .int .i64 (A 4), .int .i64 (A 5)], .agg #[.int .i64 (B 1), .int .i64 (B 4), .int .i64 (B 7)]] u fun e w' => e = .returned (.int .i64 (mul A B 4)) ∧ Below u.heap.size u w' from rdot12 (A 3) (A 4) (A 5) (B 1) (B 4) (B 7) u)
      have hA := S.out.1
      have hB := S.out.2.1
      obtain ⟨c0, f0⟩ := hA.one 0 rfl
      obtain ⟨c1, f1⟩ := hA.one 1 rfl
      obtain ⟨c2, f2⟩ := hA.one 2 rfl
      obtain ⟨c3, f3⟩ := hA.one 3 rfl
      obtain ⟨c4, f4⟩ := hA.one 4 rfl
      obtain ⟨c5, f5⟩ := hA.one 5 rfl
      obtain ⟨c6, f6⟩ := hA.one 6 rfl
      obtain ⟨c7, f7⟩ := hA.one 7 rfl
      obtain ⟨c8, f8⟩ := hA.one 8 rfl
      obtain ⟨d0, g0⟩ := hB.one 0 rfl
      obtain ⟨d1, g1⟩ := hB.one 1 rfl
      obtain ⟨d2, g2⟩ := hB.one 2 rfl
      obtain ⟨d3, g3⟩ := hB.one 3 rfl
      obtain ⟨d4, g4⟩ := hB.one 4 rfl
      obtain ⟨d5, g5⟩ := hB.one 5 rfl
      obtain ⟨d6, g6⟩ := hB.one 6 rfl
      obtain ⟨d7, g7⟩ := hB.one 7 rfl
      obtain ⟨d8, g8⟩ := hB.one 8 rfl
      clear hA hB
      go_wp2_with fail
      refine region_moves (fun u => u.cell? ⟨w.heap.size, 0, none⟩ = some (.int .i64 (A 0)) ∧ u.cell? ⟨w.heap.size, 1, none⟩ = some (.int .i64 (A 1)) ∧ u.cell? ⟨w.heap.size, 2, none⟩ = some (.int .i64 (A 2)) ∧ u.cell? ⟨w.heap.size, 3, none⟩ = some (.int .i64 (A 3)) ∧ u.cell? ⟨w.heap.size, 4, none⟩ = some (.int .i64 (A 4)) ∧ u.cell? ⟨w.heap.size, 5, none⟩ = some (.int .i64 (A 5)) ∧ u.cell? ⟨w.heap.size, 6, none⟩ = some (.int .i64 (A 6)) ∧ u.cell? ⟨w.heap.size, 7, none⟩ = some (.int .i64 (A 7)) ∧ u.cell? ⟨w.heap.size, 8, none⟩ = some (.int .i64 (A 8)) ∧ u.cell? ⟨w.heap.size + 1, 0, none⟩ = some (.int .i64 (B 0)) ∧ u.cell? ⟨w.heap.size + 1, 1, none⟩ = some (.int .i64 (B 1)) ∧ u.cell? ⟨w.heap.size + 1, 2, none⟩ = some (.int .i64 (B 2)) ∧ u.cell? ⟨w.heap.size + 1, 3, none⟩ = some (.int .i64 (B 3)) ∧ u.cell? ⟨w.heap.size + 1, 4, none⟩ = some (.int .i64 (B 4)) ∧ u.cell? ⟨w.heap.size + 1, 5, none⟩ = some (.int .i64 (B 5)) ∧ u.cell? ⟨w.heap.size + 1, 6, none⟩ = some (.int .i64 (B 6)) ∧ u.cell? ⟨w.heap.size + 1, 7, none⟩ = some (.int .i64 (B 7)) ∧ u.cell? ⟨w.heap.size + 1, 8, none⟩ = some (.int .i64 (B 8))) [(11, [(10, 11), (9, 11), (0, 11), (1, 11), (2, 11), (3, 11), (4, 11), (5, 11), (6, 11), (7, 11), (8, 11)])] [(.free, 0), (.take, 1), (.free, 2), (.free, 3), (.take, 5), (.free, 6), (.free, 7), (.step, 4), (.step, 8), (.step, 9), (.free, 10), (.late, 11)] _ (by kernel_rfl) (by kernel_rfl) (by kernel_rfl) (by kernel_rfl) (by decide) rfl (fun _ _ _ _ _ h => h) ?_
      simp only [List.filterMap_cons, List.filterMap_nil, List.getElem?_toArray, List.getElem?_cons_zero, List.getElem?_cons_succ, Option.map_some]
      iterate 1
        first
          | (refine mv_free ?_ (Or.inl ⟨by rfl, ?_⟩) (⟨c0, c1, c2, c3, c4, c5, c6, c7, c8, d0, d1, d2, d3, d4, d5, d6, d7, d8⟩) ?_
             rotate_left 1
             · intro u
               go_simp
               try simp only [d1]
               try simp only [d2]
               try simp only [d3]
               try with_reducible rfl
             simp only [Act.put, List.setIfInBounds_toArray, List.set_cons_zero, List.set_cons_succ])
          | (refine mv_free _ (Or.inr ⟨by rfl, rfl⟩) (⟨c0, c1, c2, c3, c4, c5, c6, c7, c8, d0, d1, d2, d3, d4, d5, d6, d7, d8⟩) ?_
             simp only [Act.put, List.setIfInBounds_toArray, List.set_cons_zero, List.set_cons_succ])
      iterate 1
        first
          | (refine mv_take ?_ (Or.inl ⟨by rfl, ?_⟩) (⟨c0, c1, c2, c3, c4, c5, c6, c7, c8, d0, d1, d2, d3, d4, d5, d6, d7, d8⟩) ?_
             rotate_left 1
             · intro u hu
               (try dsimp only at hu)
               go_simp
               try with_reducible rfl
             simp only [Act.put, List.setIfInBounds_toArray, List.set_cons_zero, List.set_cons_succ])
          | (refine mv_take _ (Or.inr ⟨by rfl, rfl⟩) (⟨c0, c1, c2, c3, c4, c5, c6, c7, c8, d0, d1, d2, d3, d4, d5, d6, d7, d8⟩) ?_
             simp only [Act.put, List.setIfInBounds_toArray, List.set_cons_zero, List.set_cons_succ])
      iterate 2
        first
          | (refine mv_free ?_ (Or.inl ⟨by rfl, ?_⟩) (⟨c0, c1, c2, c3, c4, c5, c6, c7, c8, d0, d1, d2, d3, d4, d5, d6, d7, d8⟩) ?_
             rotate_left 1
             · intro u
               go_simp
               try simp only [d1]
               try simp only [d2]
               try simp only [d3]
               try with_reducible rfl
             simp only [Act.put, List.setIfInBounds_toArray, List.set_cons_zero, List.set_cons_succ])
          | (refine mv_free _ (Or.inr ⟨by rfl, rfl⟩) (⟨c0, c1, c2, c3, c4, c5, c6, c7, c8, d0, d1, d2, d3, d4, d5, d6, d7, d8⟩) ?_
             simp only [Act.put, List.setIfInBounds_toArray, List.set_cons_zero, List.set_cons_succ])
      iterate 1
        first
          | (refine mv_take ?_ (Or.inl ⟨by rfl, ?_⟩) (⟨c0, c1, c2, c3, c4, c5, c6, c7, c8, d0, d1, d2, d3, d4, d5, d6, d7, d8⟩) ?_
             rotate_left 1
             · intro u hu
               (try dsimp only at hu)
               go_simp
               try with_reducible rfl
             simp only [Act.put, List.setIfInBounds_toArray, List.set_cons_zero, List.set_cons_succ])
          | (refine mv_take _ (Or.inr ⟨by rfl, rfl⟩) (⟨c0, c1, c2, c3, c4, c5, c6, c7, c8, d0, d1, d2, d3, d4, d5, d6, d7, d8⟩) ?_
             simp only [Act.put, List.setIfInBounds_toArray, List.set_cons_zero, List.set_cons_succ])
      iterate 2
        first
          | (refine mv_free ?_ (Or.inl ⟨by rfl, ?_⟩) (⟨c0, c1, c2, c3, c4, c5, c6, c7, c8, d0, d1, d2, d3, d4, d5, d6, d7, d8⟩) ?_
             rotate_left 1
             · intro u
               go_simp
               try simp only [d1]
               try simp only [d2]
               try simp only [d3]
               try with_reducible rfl
             simp only [Act.put, List.setIfInBounds_toArray, List.set_cons_zero, List.set_cons_succ])
          | (refine mv_free _ (Or.inr ⟨by rfl, rfl⟩) (⟨c0, c1, c2, c3, c4, c5, c6, c7, c8, d0, d1, d2, d3, d4, d5, d6, d7, d8⟩) ?_
             simp only [Act.put, List.setIfInBounds_toArray, List.set_cons_zero, List.set_cons_succ])
      refine mv_step (fun K hK => ?_)
      go_simp
      refine (RR.out _).mono ?_
      rintro e w1 ⟨rfl, hb1⟩
      have S1 := Lib.hid (S.out.bel ((Below.refl _ _).drew.trans hb1))
      clear hb1
      clear c0 f0 d0 g0 c1 f1 d1 g1 c2 f2 d2 g2 c3 f3 d3 g3 c4 f4 d4 g4 c5 f5 d5 g5 c6 f6 d6 g6 c7 f7 d7 g7 c8 f8 d8 g8
      have hA := S1.out.1
      have hB := S1.out.2.1
      obtain ⟨c0, f0⟩ := hA.one 0 rfl
      obtain ⟨c1, f1⟩ := hA.one 1 rfl
      obtain ⟨c2, f2⟩ := hA.one 2 rfl
      obtain ⟨c3, f3⟩ := hA.one 3 rfl
      obtain ⟨c4, f4⟩ := hA.one 4 rfl
      obtain ⟨c5, f5⟩ := hA.one 5 rfl
      obtain ⟨c6, f6⟩ := hA.one 6 rfl
      obtain ⟨c7, f7⟩ := hA.one 7 rfl
      obtain ⟨c8, f8⟩ := hA.one 8 rfl
      obtain ⟨d0, g0⟩ := hB.one 0 rfl
      obtain ⟨d1, g1⟩ := hB.one 1 rfl
      obtain ⟨d2, g2⟩ := hB.one 2 rfl
      obtain ⟨d3, g3⟩ := hB.one 3 rfl
      obtain ⟨d4, g4⟩ := hB.one 4 rfl
      obtain ⟨d5, g5⟩ := hB.one 5 rfl
      obtain ⟨d6, g6⟩ := hB.one 6 rfl
      obtain ⟨d7, g7⟩ := hB.one 7 rfl
      obtain ⟨d8, g8⟩ := hB.one 8 rfl
      clear hA hB
      go_wp2_with fail
      refine hK.out _ _ _ (fun u hu => hu) (⟨c0, c1, c2, c3, c4, c5, c6, c7, c8, d0, d1, d2, d3, d4, d5, d6, d7, d8⟩) ?_
      clear hK K
      refine mv_step (fun K hK => ?_)
      go_simp
      refine (RC.out _).mono ?_
      rintro e w2 ⟨rfl, hb2⟩
      have S2 := Lib.hid (S1.out.bel (hb2))
      clear hb2
      clear c0 f0 d0 g0 c1 f1 d1 g1 c2 f2 d2 g2 c3 f3 d3 g3 c4 f4 d4 g4 c5 f5 d5 g5 c6 f6 d6 g6 c7 f7 d7 g7 c8 f8 d8 g8
      have hA := S2.out.1
      have hB := S2.out.2.1
      obtain ⟨c0, f0⟩ := hA.one 0 rfl
      obtain ⟨c1, f1⟩ := hA.one 1 rfl
      obtain ⟨c2, f2⟩ := hA.one 2 rfl
      obtain ⟨c3, f3⟩ := hA.one 3 rfl
      obtain ⟨c4, f4⟩ := hA.one 4 rfl
      obtain ⟨c5, f5⟩ := hA.one 5 rfl
      obtain ⟨c6, f6⟩ := hA.one 6 rfl
      obtain ⟨c7, f7⟩ := hA.one 7 rfl
      obtain ⟨c8, f8⟩ := hA.one 8 rfl
      obtain ⟨d0, g0⟩ := hB.one 0 rfl
      obtain ⟨d1, g1⟩ := hB.one 1 rfl
      obtain ⟨d2, g2⟩ := hB.one 2 rfl
      obtain ⟨d3, g3⟩ := hB.one 3 rfl
      obtain ⟨d4, g4⟩ := hB.one 4 rfl
      obtain ⟨d5, g5⟩ := hB.one 5 rfl
      obtain ⟨d6, g6⟩ := hB.one 6 rfl
      obtain ⟨d7, g7⟩ := hB.one 7 rfl
      obtain ⟨d8, g8⟩ := hB.one 8 rfl
      clear hA hB
      go_wp2_with fail
      refine hK.out _ _ _ (fun u hu => hu) (⟨c0, c1, c2, c3, c4, c5, c6, c7, c8, d0, d1, d2, d3, d4, d5, d6, d7, d8⟩) ?_
      clear hK K
      refine mv_step (fun K hK => ?_)
      go_simp
      refine (RD.out _).mono ?_
      rintro e w3 ⟨rfl, hb3⟩
      have S3 := Lib.hid (S2.out.bel (hb3))
      clear hb3
      clear c0 f0 d0 g0 c1 f1 d1 g1 c2 f2 d2 g2 c3 f3 d3 g3 c4 f4 d4 g4 c5 f5 d5 g5 c6 f6 d6 g6 c7 f7 d7 g7 c8 f8 d8 g8
      have hA := S3.out.1
      have hB := S3.out.2.1
      obtain ⟨c0, f0⟩ := hA.one 0 rfl
      obtain ⟨c1, f1⟩ := hA.one 1 rfl
      obtain ⟨c2, f2⟩ := hA.one 2 rfl
      obtain ⟨c3, f3⟩ := hA.one 3 rfl
      obtain ⟨c4, f4⟩ := hA.one 4 rfl
      obtain ⟨c5, f5⟩ := hA.one 5 rfl
      obtain ⟨c6, f6⟩ := hA.one 6 rfl
      obtain ⟨c7, f7⟩ := hA.one 7 rfl
      obtain ⟨c8, f8⟩ := hA.one 8 rfl
      obtain ⟨d0, g0⟩ := hB.one 0 rfl
      obtain ⟨d1, g1⟩ := hB.one 1 rfl
      obtain ⟨d2, g2⟩ := hB.one 2 rfl
      obtain ⟨d3, g3⟩ := hB.one 3 rfl
      obtain ⟨d4, g4⟩ := hB.one 4 rfl
      obtain ⟨d5, g5⟩ := hB.one 5 rfl
      obtain ⟨d6, g6⟩ := hB.one 6 rfl
      obtain ⟨d7, g7⟩ := hB.one 7 rfl
      obtain ⟨d8, g8⟩ := hB.one 8 rfl
      clear hA hB
      have ck := S3.out.2.2.2.1.c 4 _ (mC_at (mul A B) _ _ (by omega))
      have fk := S3.out.2.2.2.1.f 4 (by rw [mC_len]; omega)
      have S4 := Lib.hid (S3.out.step (by omega))
      generalize mul A B 4 = x at *
      go_wp2_with fail
      refine hK.out _ _ _ (fun u hu => hu) (⟨c0, c1, c2, c3, c4, c5, c6, c7, c8, d0, d1, d2, d3, d4, d5, d6, d7, d8⟩) ?_
      clear hK K
      iterate 1
        first
          | (refine mv_free ?_ (Or.inl ⟨by rfl, ?_⟩) (⟨c0, c1, c2, c3, c4, c5, c6, c7, c8, d0, d1, d2, d3, d4, d5, d6, d7, d8⟩) ?_
             rotate_left 1
             · intro u
               go_simp
               try simp only [d1]
               try simp only [d2]
               try simp only [d3]
               try with_reducible rfl
             simp only [Act.put, List.setIfInBounds_toArray, List.set_cons_zero, List.set_cons_succ])
          | (refine mv_free _ (Or.inr ⟨by rfl, rfl⟩) (⟨c0, c1, c2, c3, c4, c5, c6, c7, c8, d0, d1, d2, d3, d4, d5, d6, d7, d8⟩) ?_
             simp only [Act.put, List.setIfInBounds_toArray, List.set_cons_zero, List.set_cons_succ])
      refine mv_late (fun K hK => ?_)
      go_simp
      refine hK.out (fun _ => True) _ _ ?_
      clear hK K
      refine mv_done ?_
      generalize w3.setCell ⟨w.heap.size + 3, 4, none⟩ (.int .i64 x) = w4 at *
      go_wp2
      go_roundw
      case rel => exact ⟨4 + 1, by omega, by first | rfl | go_num, S4⟩
      case measure => simp [intOf]
    · have RR := Lib.hid (fun u => rrow1 A u)
      have RC := Lib.hid (fun u => rcol2 B u)
      have RD := Lib.hid (fun u => show Calls Try.prog 33 #[.agg #[.int .i64 (A 3), .int .i64 (A 4), .int .i64 (A 5)], .agg #[.int .i64 (B 2), .int .i64 (B 5), .int .i64 (B 8)]] u fun e w' => e = .returned (.int .i64 (mul A B 5)) ∧ Below u.heap.size u w' from rdot12 (A 3) (A 4) (A 5) (B 2) (B 5) (B 8) u)
      have hA := S.out.1
      have hB := S.out.2.1
      obtain ⟨c0, f0⟩ := hA.one 0 rfl
      obtain ⟨c1, f1⟩ := hA.one 1 rfl
      obtain ⟨c2, f2⟩ := hA.one 2 rfl
      obtain ⟨c3, f3⟩ := hA.one 3 rfl
      obtain ⟨c4, f4⟩ := hA.one 4 rfl
      obtain ⟨c5, f5⟩ := hA.one 5 rfl
      obtain ⟨c6, f6⟩ := hA.one 6 rfl
      obtain ⟨c7, f7⟩ := hA.one 7 rfl
      obtain ⟨c8, f8⟩ := hA.one 8 rfl
      obtain ⟨d0, g0⟩ := hB.one 0 rfl
      obtain ⟨d1, g1⟩ := hB.one 1 rfl
      obtain ⟨d2, g2⟩ := hB.one 2 rfl
      obtain ⟨d3, g3⟩ := hB.one 3 rfl
      obtain ⟨d4, g4⟩ := hB.one 4 rfl
      obtain ⟨d5, g5⟩ := hB.one 5 rfl
      obtain ⟨d6, g6⟩ := hB.one 6 rfl
      obtain ⟨d7, g7⟩ := hB.one 7 rfl
      obtain ⟨d8, g8⟩ := hB.one 8 rfl
      clear hA hB
      go_wp2_with fail
      refine region_moves (fun u => u.cell? ⟨w.heap.size, 0, none⟩ = some (.int .i64 (A 0)) ∧ u.cell? ⟨w.heap.size, 1, none⟩ = some (.int .i64 (A 1)) ∧ u.cell? ⟨w.heap.size, 2, none⟩ = some (.int .i64 (A 2)) ∧ u.cell? ⟨w.heap.size, 3, none⟩ = some (.int .i64 (A 3)) ∧ u.cell? ⟨w.heap.size, 4, none⟩ = some (.int .i64 (A 4)) ∧ u.cell? ⟨w.heap.size, 5, none⟩ = some (.int .i64 (A 5)) ∧ u.cell? ⟨w.heap.size, 6, none⟩ = some (.int .i64 (A 6)) ∧ u.cell? ⟨w.heap.size, 7, none⟩ = some (.int .i64 (A 7)) ∧ u.cell? ⟨w.heap.size, 8, none⟩ = some (.int .i64 (A 8)) ∧ u.cell? ⟨w.heap.size + 1, 0, none⟩ = some (.int .i64 (B 0)) ∧ u.cell? ⟨w.heap.size + 1, 1, none⟩ = some (.int .i64 (B 1)) ∧ u.cell? ⟨w.heap.size + 1, 2, none⟩ = some (.int .i64 (B 2)) ∧ u.cell? ⟨w.heap.size + 1, 3, none⟩ = some (.int .i64 (B 3)) ∧ u.cell? ⟨w.heap.size + 1, 4, none⟩ = some (.int .i64 (B 4)) ∧ u.cell? ⟨w.heap.size + 1, 5, none⟩ = some (.int .i64 (B 5)) ∧ u.cell? ⟨w.heap.size + 1, 6, none⟩ = some (.int .i64 (B 6)) ∧ u.cell? ⟨w.heap.size + 1, 7, none⟩ = some (.int .i64 (B 7)) ∧ u.cell? ⟨w.heap.size + 1, 8, none⟩ = some (.int .i64 (B 8))) [(11, [(10, 11), (9, 11), (0, 11), (1, 11), (2, 11), (3, 11), (4, 11), (5, 11), (6, 11), (7, 11), (8, 11)])] [(.free, 0), (.take, 1), (.free, 2), (.free, 3), (.take, 5), (.free, 6), (.free, 7), (.step, 4), (.step, 8), (.step, 9), (.free, 10), (.late, 11)] _ (by kernel_rfl) (by kernel_rfl) (by kernel_rfl) (by kernel_rfl) (by decide) rfl (fun _ _ _ _ _ h => h) ?_
      simp only [List.filterMap_cons, List.filterMap_nil, List.getElem?_toArray, List.getElem?_cons_zero, List.getElem?_cons_succ, Option.map_some]
      iterate 1
        first
          | (refine mv_free ?_ (Or.inl ⟨by rfl, ?_⟩) (⟨c0, c1, c2, c3, c4, c5, c6, c7, c8, d0, d1, d2, d3, d4, d5, d6, d7, d8⟩) ?_
             rotate_left 1
             · intro u
               go_simp
               try simp only [d1]
               try simp only [d2]
               try simp only [d3]
               try with_reducible rfl
             simp only [Act.put, List.setIfInBounds_toArray, List.set_cons_zero, List.set_cons_succ])
          | (refine mv_free _ (Or.inr ⟨by rfl, rfl⟩) (⟨c0, c1, c2, c3, c4, c5, c6, c7, c8, d0, d1, d2, d3, d4, d5, d6, d7, d8⟩) ?_
             simp only [Act.put, List.setIfInBounds_toArray, List.set_cons_zero, List.set_cons_succ])
      iterate 1
        first
          | (refine mv_take ?_ (Or.inl ⟨by rfl, ?_⟩) (⟨c0, c1, c2, c3, c4, c5, c6, c7, c8, d0, d1, d2, d3, d4, d5, d6, d7, d8⟩) ?_
             rotate_left 1
             · intro u hu
               (try dsimp only at hu)
               go_simp
               try with_reducible rfl
             simp only [Act.put, List.setIfInBounds_toArray, List.set_cons_zero, List.set_cons_succ])
          | (refine mv_take _ (Or.inr ⟨by rfl, rfl⟩) (⟨c0, c1, c2, c3, c4, c5, c6, c7, c8, d0, d1, d2, d3, d4, d5, d6, d7, d8⟩) ?_
             simp only [Act.put, List.setIfInBounds_toArray, List.set_cons_zero, List.set_cons_succ])
      iterate 2
        first
          | (refine mv_free ?_ (Or.inl ⟨by rfl, ?_⟩) (⟨c0, c1, c2, c3, c4, c5, c6, c7, c8, d0, d1, d2, d3, d4, d5, d6, d7, d8⟩) ?_
             rotate_left 1
             · intro u
               go_simp
               try simp only [d1]
               try simp only [d2]
               try simp only [d3]
               try with_reducible rfl
             simp only [Act.put, List.setIfInBounds_toArray, List.set_cons_zero, List.set_cons_succ])
          | (refine mv_free _ (Or.inr ⟨by rfl, rfl⟩) (⟨c0, c1, c2, c3, c4, c5, c6, c7, c8, d0, d1, d2, d3, d4, d5, d6, d7, d8⟩) ?_
             simp only [Act.put, List.setIfInBounds_toArray, List.set_cons_zero, List.set_cons_succ])
      iterate 1
        first
          | (refine mv_take ?_ (Or.inl ⟨by rfl, ?_⟩) (⟨c0, c1, c2, c3, c4, c5, c6, c7, c8, d0, d1, d2, d3, d4, d5, d6, d7, d8⟩) ?_
             rotate_left 1
             · intro u hu
               (try dsimp only at hu)
               go_simp
               try with_reducible rfl
             simp only [Act.put, List.setIfInBounds_toArray, List.set_cons_zero, List.set_cons_succ])
          | (refine mv_take _ (Or.inr ⟨by rfl, rfl⟩) (⟨c0, c1, c2, c3, c4, c5, c6, c7, c8, d0, d1, d2, d3, d4, d5, d6, d7, d8⟩) ?_
             simp only [Act.put, List.setIfInBounds_toArray, List.set_cons_zero, List.set_cons_succ])
      iterate 2
        first
          | (refine mv_free ?_ (Or.inl ⟨by rfl, ?_⟩) (⟨c0, c1, c2, c3, c4, c5, c6, c7, c8, d0, d1, d2, d3, d4, d5, d6, d7, d8⟩) ?_
             rotate_left 1
             · intro u
               go_simp
               try simp only [d1]
               try simp only [d2]
               try simp only [d3]
               try with_reducible rfl
             simp only [Act.put, List.setIfInBounds_toArray, List.set_cons_zero, List.set_cons_succ])
          | (refine mv_free _ (Or.inr ⟨by rfl, rfl⟩) (⟨c0, c1, c2, c3, c4, c5, c6, c7, c8, d0, d1, d2, d3, d4, d5, d6, d7, d8⟩) ?_
             simp only [Act.put, List.setIfInBounds_toArray, List.set_cons_zero, List.set_cons_succ])
      refine mv_step (fun K hK => ?_)
      go_simp
      refine (RR.out _).mono ?_
      rintro e w1 ⟨rfl, hb1⟩
      have S1 := Lib.hid (S.out.bel ((Below.refl _ _).drew.trans hb1))
      clear hb1
      clear c0 f0 d0 g0 c1 f1 d1 g1 c2 f2 d2 g2 c3 f3 d3 g3 c4 f4 d4 g4 c5 f5 d5 g5 c6 f6 d6 g6 c7 f7 d7 g7 c8 f8 d8 g8
      have hA := S1.out.1
      have hB := S1.out.2.1
      obtain ⟨c0, f0⟩ := hA.one 0 rfl
      obtain ⟨c1, f1⟩ := hA.one 1 rfl
      obtain ⟨c2, f2⟩ := hA.one 2 rfl
      obtain ⟨c3, f3⟩ := hA.one 3 rfl
      obtain ⟨c4, f4⟩ := hA.one 4 rfl
      obtain ⟨c5, f5⟩ := hA.one 5 rfl
      obtain ⟨c6, f6⟩ := hA.one 6 rfl
      obtain ⟨c7, f7⟩ := hA.one 7 rfl
      obtain ⟨c8, f8⟩ := hA.one 8 rfl
      obtain ⟨d0, g0⟩ := hB.one 0 rfl
      obtain ⟨d1, g1⟩ := hB.one 1 rfl
      obtain ⟨d2, g2⟩ := hB.one 2 rfl
      obtain ⟨d3, g3⟩ := hB.one 3 rfl
      obtain ⟨d4, g4⟩ := hB.one 4 rfl
      obtain ⟨d5, g5⟩ := hB.one 5 rfl
      obtain ⟨d6, g6⟩ := hB.one 6 rfl
      obtain ⟨d7, g7⟩ := hB.one 7 rfl
      obtain ⟨d8, g8⟩ := hB.one 8 rfl
      clear hA hB
      go_wp2_with fail
      refine hK.out _ _ _ (fun u hu => hu) (⟨c0, c1, c2, c3, c4, c5, c6, c7, c8, d0, d1, d2, d3, d4, d5, d6, d7, d8⟩) ?_
      clear hK K
      refine mv_step (fun K hK => ?_)
      go_simp
      refine (RC.out _).mono ?_
      rintro e w2 ⟨rfl, hb2⟩
      have S2 := Lib.hid (S1.out.bel (hb2))
      clear hb2
      clear c0 f0 d0 g0 c1 f1 d1 g1 c2 f2 d2 g2 c3 f3 d3 g3 c4 f4 d4 g4 c5 f5 d5 g5 c6 f6 d6 g6 c7 f7 d7 g7 c8 f8 d8 g8
      have hA := S2.out.1
      have hB := S2.out.2.1
      obtain ⟨c0, f0⟩ := hA.one 0 rfl
      obtain ⟨c1, f1⟩ := hA.one 1 rfl
      obtain ⟨c2, f2⟩ := hA.one 2 rfl
      obtain ⟨c3, f3⟩ := hA.one 3 rfl
      obtain ⟨c4, f4⟩ := hA.one 4 rfl
      obtain ⟨c5, f5⟩ := hA.one 5 rfl
      obtain ⟨c6, f6⟩ := hA.one 6 rfl
      obtain ⟨c7, f7⟩ := hA.one 7 rfl
      obtain ⟨c8, f8⟩ := hA.one 8 rfl
      obtain ⟨d0, g0⟩ := hB.one 0 rfl
      obtain ⟨d1, g1⟩ := hB.one 1 rfl
      obtain ⟨d2, g2⟩ := hB.one 2 rfl
      obtain ⟨d3, g3⟩ := hB.one 3 rfl
      obtain ⟨d4, g4⟩ := hB.one 4 rfl
      obtain ⟨d5, g5⟩ := hB.one 5 rfl
      obtain ⟨d6, g6⟩ := hB.one 6 rfl
      obtain ⟨d7, g7⟩ := hB.one 7 rfl
      obtain ⟨d8, g8⟩ := hB.one 8 rfl
      clear hA hB
      go_wp2_with fail
      refine hK.out _ _ _ (fun u hu => hu) (⟨c0, c1, c2, c3, c4, c5, c6, c7, c8, d0, d1, d2, d3, d4, d5, d6, d7, d8⟩) ?_
      clear hK K
      refine mv_step (fun K hK => ?_)
      go_simp
      refine (RD.out _).mono ?_
      rintro e w3 ⟨rfl, hb3⟩
      have S3 := Lib.hid (S2.out.bel (hb3))
      clear hb3
      clear c0 f0 d0 g0 c1 f1 d1 g1 c2 f2 d2 g2 c3 f3 d3 g3 c4 f4 d4 g4 c5 f5 d5 g5 c6 f6 d6 g6 c7 f7 d7 g7 c8 f8 d8 g8
      have hA := S3.out.1
      have hB := S3.out.2.1
      obtain ⟨c0, f0⟩ := hA.one 0 rfl
      obtain ⟨c1, f1⟩ := hA.one 1 rfl
      obtain ⟨c2, f2⟩ := hA.one 2 rfl
      obtain ⟨c3, f3⟩ := hA.one 3 rfl
      obtain ⟨c4, f4⟩ := hA.one 4 rfl
      obtain ⟨c5, f5⟩ := hA.one 5 rfl
      obtain ⟨c6, f6⟩ := hA.one 6 rfl
      obtain ⟨c7, f7⟩ := hA.one 7 rfl
      obtain ⟨c8, f8⟩ := hA.one 8 rfl
      obtain ⟨d0, g0⟩ := hB.one 0 rfl
      obtain ⟨d1, g1⟩ := hB.one 1 rfl
      obtain ⟨d2, g2⟩ := hB.one 2 rfl
      obtain ⟨d3, g3⟩ := hB.one 3 rfl
      obtain ⟨d4, g4⟩ := hB.one 4 rfl
      obtain ⟨d5, g5⟩ := hB.one 5 rfl
      obtain ⟨d6, g6⟩ := hB.one 6 rfl
      obtain ⟨d7, g7⟩ := hB.one 7 rfl
      obtain ⟨d8, g8⟩ := hB.one 8 rfl
      clear hA hB
      have ck := S3.out.2.2.2.1.c 5 _ (mC_at (mul A B) _ _ (by omega))
      have fk := S3.out.2.2.2.1.f 5 (by rw [mC_len]; omega)
      have S4 := Lib.hid (S3.out.step (by omega))
      generalize mul A B 5 = x at *
      go_wp2_with fail
      refine hK.out _ _ _ (fun u hu => hu) (⟨c0, c1, c2, c3, c4, c5, c6, c7, c8, d0, d1, d2, d3, d4, d5, d6, d7, d8⟩) ?_
      clear hK K
      iterate 1
        first
          | (refine mv_free ?_ (Or.inl ⟨by rfl, ?_⟩) (⟨c0, c1, c2, c3, c4, c5, c6, c7, c8, d0, d1, d2, d3, d4, d5, d6, d7, d8⟩) ?_
             rotate_left 1
             · intro u
               go_simp
               try simp only [d1]
               try simp only [d2]
               try simp only [d3]
               try with_reducible rfl
             simp only [Act.put, List.setIfInBounds_toArray, List.set_cons_zero, List.set_cons_succ])
          | (refine mv_free _ (Or.inr ⟨by rfl, rfl⟩) (⟨c0, c1, c2, c3, c4, c5, c6, c7, c8, d0, d1, d2, d3, d4, d5, d6, d7, d8⟩) ?_
             simp only [Act.put, List.setIfInBounds_toArray, List.set_cons_zero, List.set_cons_succ])
      refine mv_late (fun K hK => ?_)
      go_simp
      refine hK.out (fun _ => True) _ _ ?_
      clear hK K
      refine mv_done ?_
      generalize w3.setCell ⟨w.heap.size + 3, 5, none⟩ (.int .i64 x) = w4 at *
      go_wp2
      go_roundw
      case rel => exact ⟨5 + 1, by omega, by first | rfl | go_num, S4⟩
      case measure => simp [intOf]
    · have RR := Lib.hid (fun u => rrow2 A u)
      have RC := Lib.hid (fun u => rcol0 B u)
      have RD := Lib.hid (fun u => show Calls Try.prog 33 #[.agg #[.int .i64 (A 6), .int .i64 (A 7), .int .i64 (A 8)], .agg #[.int .i64 (B 0), .int .i64 (B 3), .int .i64 (B 6)]] u fun e w' => e = .returned (.int .i64 (mul A B 6)) ∧ Below u.heap.size u w' from rdot12 (A 6) (A 7) (A 8) (B 0) (B 3) (B 6) u)
      have hA := S.out.1
      have hB := S.out.2.1
      obtain ⟨c0, f0⟩ := hA.one 0 rfl
      obtain ⟨c1, f1⟩ := hA.one 1 rfl
      obtain ⟨c2, f2⟩ := hA.one 2 rfl
      obtain ⟨c3, f3⟩ := hA.one 3 rfl
      obtain ⟨c4, f4⟩ := hA.one 4 rfl
      obtain ⟨c5, f5⟩ := hA.one 5 rfl
      obtain ⟨c6, f6⟩ := hA.one 6 rfl
      obtain ⟨c7, f7⟩ := hA.one 7 rfl
      obtain ⟨c8, f8⟩ := hA.one 8 rfl
      obtain ⟨d0, g0⟩ := hB.one 0 rfl
      obtain ⟨d1, g1⟩ := hB.one 1 rfl
      obtain ⟨d2, g2⟩ := hB.one 2 rfl
      obtain ⟨d3, g3⟩ := hB.one 3 rfl
      obtain ⟨d4, g4⟩ := hB.one 4 rfl
      obtain ⟨d5, g5⟩ := hB.one 5 rfl
      obtain ⟨d6, g6⟩ := hB.one 6 rfl
      obtain ⟨d7, g7⟩ := hB.one 7 rfl
      obtain ⟨d8, g8⟩ := hB.one 8 rfl
      clear hA hB
      go_wp2_with fail
      refine region_moves (fun u => u.cell? ⟨w.heap.size, 0, none⟩ = some (.int .i64 (A 0)) ∧ u.cell? ⟨w.heap.size, 1, none⟩ = some (.int .i64 (A 1)) ∧ u.cell? ⟨w.heap.size, 2, none⟩ = some (.int .i64 (A 2)) ∧ u.cell? ⟨w.heap.size, 3, none⟩ = some (.int .i64 (A 3)) ∧ u.cell? ⟨w.heap.size, 4, none⟩ = some (.int .i64 (A 4)) ∧ u.cell? ⟨w.heap.size, 5, none⟩ = some (.int .i64 (A 5)) ∧ u.cell? ⟨w.heap.size, 6, none⟩ = some (.int .i64 (A 6)) ∧ u.cell? ⟨w.heap.size, 7, none⟩ = some (.int .i64 (A 7)) ∧ u.cell? ⟨w.heap.size, 8, none⟩ = some (.int .i64 (A 8)) ∧ u.cell? ⟨w.heap.size + 1, 0, none⟩ = some (.int .i64 (B 0)) ∧ u.cell? ⟨w.heap.size + 1, 1, none⟩ = some (.int .i64 (B 1)) ∧ u.cell? ⟨w.heap.size + 1, 2, none⟩ = some (.int .i64 (B 2)) ∧ u.cell? ⟨w.heap.size + 1, 3, none⟩ = some (.int .i64 (B 3)) ∧ u.cell? ⟨w.heap.size + 1, 4, none⟩ = some (.int .i64 (B 4)) ∧ u.cell? ⟨w.heap.size + 1, 5, none⟩ = some (.int .i64 (B 5)) ∧ u.cell? ⟨w.heap.size + 1, 6, none⟩ = some (.int .i64 (B 6)) ∧ u.cell? ⟨w.heap.size + 1, 7, none⟩ = some (.int .i64 (B 7)) ∧ u.cell? ⟨w.heap.size + 1, 8, none⟩ = some (.int .i64 (B 8))) [(11, [(10, 11), (9, 11), (0, 11), (1, 11), (2, 11), (3, 11), (4, 11), (5, 11), (6, 11), (7, 11), (8, 11)])] [(.free, 0), (.take, 1), (.free, 2), (.free, 3), (.take, 5), (.free, 6), (.free, 7), (.step, 4), (.step, 8), (.step, 9), (.free, 10), (.late, 11)] _ (by kernel_rfl) (by kernel_rfl) (by kernel_rfl) (by kernel_rfl) (by decide) rfl (fun _ _ _ _ _ h => h) ?_
      simp only [List.filterMap_cons, List.filterMap_nil, List.getElem?_toArray, List.getElem?_cons_zero, List.getElem?_cons_succ, Option.map_some]
      iterate 1
        first
          | (refine mv_free ?_ (Or.inl ⟨by rfl, ?_⟩) (⟨c0, c1, c2, c3, c4, c5, c6, c7, c8, d0, d1, d2, d3, d4, d5, d6, d7, d8⟩) ?_
             rotate_left 1
             · intro u
               go_simp
               try simp only [d1]
               try simp only [d2]
               try simp only [d3]
               try with_reducible rfl
             simp only [Act.put, List.setIfInBounds_toArray, List.set_cons_zero, List.set_cons_succ])
          | (refine mv_free _ (Or.inr ⟨by rfl, rfl⟩) (⟨c0, c1, c2, c3, c4, c5, c6, c7, c8, d0, d1, d2, d3, d4, d5, d6, d7, d8⟩) ?_
             simp only [Act.put, List.setIfInBounds_toArray, List.set_cons_zero, List.set_cons_succ])
      iterate 1
        first
          | (refine mv_take ?_ (Or.inl ⟨by rfl, ?_⟩) (⟨c0, c1, c2, c3, c4, c5, c6, c7, c8, d0, d1, d2, d3, d4, d5, d6, d7, d8⟩) ?_
             rotate_left 1
             · intro u hu
               (try dsimp only at hu)
               go_simp
               try with_reducible rfl
             simp only [Act.put, List.setIfInBounds_toArray, List.set_cons_zero, List.set_cons_succ])
          | (refine mv_take _ (Or.inr ⟨by rfl, rfl⟩) (⟨c0, c1, c2, c3, c4, c5, c6, c7, c8, d0, d1, d2, d3, d4, d5, d6, d7, d8⟩) ?_
             simp only [Act.put, List.setIfInBounds_toArray, List.set_cons_zero, List.set_cons_succ])
      iterate 2
        first
          | (refine mv_free ?_ (Or.inl ⟨by rfl, ?_⟩) (⟨c0, c1, c2, c3, c4, c5, c6, c7, c8, d0, d1, d2, d3, d4, d5, d6, d7, d8⟩) ?_
             rotate_left 1
             · intro u
               go_simp
               try simp only [d1]
               try simp only [d2]
               try simp only [d3]
               try with_reducible rfl
             simp only [Act.put, List.setIfInBounds_toArray, List.set_cons_zero, List.set_cons_succ])
          | (refine mv_free _ (Or.inr ⟨by rfl, rfl⟩) (⟨c0, c1, c2, c3, c4, c5, c6, c7, c8, d0, d1, d2, d3, d4, d5, d6, d7, d8⟩) ?_
             simp only [Act.put, List.setIfInBounds_toArray, List.set_cons_zero, List.set_cons_succ])
      iterate 1
        first
          | (refine mv_take ?_ (Or.inl ⟨by rfl, ?_⟩) (⟨c0, c1, c2, c3, c4, c5, c6, c7, c8, d0, d1, d2, d3, d4, d5, d6, d7, d8⟩) ?_
             rotate_left 1
             · intro u hu
               (try dsimp only at hu)
               go_simp
               try with_reducible rfl
             simp only [Act.put, List.setIfInBounds_toArray, List.set_cons_zero, List.set_cons_succ])
          | (refine mv_take _ (Or.inr ⟨by rfl, rfl⟩) (⟨c0, c1, c2, c3, c4, c5, c6, c7, c8, d0, d1, d2, d3, d4, d5, d6, d7, d8⟩) ?_
             simp only [Act.put, List.setIfInBounds_toArray, List.set_cons_zero, List.set_cons_succ])
      iterate 2
        first
          | (refine mv_free ?_ (Or.inl ⟨by rfl, ?_⟩) (⟨c0, c1, c2, c3, c4, c5, c6, c7, c8, d0, d1, d2, d3, d4, d5, d6, d7, d8⟩) ?_
             rotate_left 1
             · intro u
               go_simp
               try simp only [d1]
               try simp only [d2]
               try simp only [d3]
               try with_reducible rfl
             simp only [Act.put, List.setIfInBounds_toArray, List.set_cons_zero, List.set_cons_succ])
          | (refine mv_free _ (Or.inr ⟨by rfl, rfl⟩) (⟨c0, c1, c2, c3, c4, c5, c6, c7, c8, d0, d1, d2, d3, d4, d5, d6, d7, d8⟩) ?_
             simp only [Act.put, List.setIfInBounds_toArray, List.set_cons_zero, List.set_cons_succ])
      refine mv_step (fun K hK => ?_)
      go_simp
      refine (RR.out _).mono ?_
      rintro e w1 ⟨rfl, hb1⟩
      have S1 := Lib.hid (S.out.bel ((Below.refl _ _).drew.trans hb1))
      clear hb1
      clear c0 f0 d0 g0 c1 f1 d1 g1 c2 f2 d2 g2 c3 f3 d3 g3 c4 f4 d4 g4 c5 f5 d5 g5 c6 f6 d6 g6 c7 f7 d7 g7 c8 f8 d8 g8
      have hA := S1.out.1
      have hB := S1.out.2.1
      obtain ⟨c0, f0⟩ := hA.one 0 rfl
      obtain ⟨c1, f1⟩ := hA.one 1 rfl
      obtain ⟨c2, f2⟩ := hA.one 2 rfl
      obtain ⟨c3, f3⟩ := hA.one 3 rfl
      obtain ⟨c4, f4⟩ := hA.one 4 rfl
      obtain ⟨c5, f5⟩ := hA.one 5 rfl
      obtain ⟨c6, f6⟩ := hA.one 6 rfl
      obtain ⟨c7, f7⟩ := hA.one 7 rfl
      obtain ⟨c8, f8⟩ := hA.one 8 rfl
      obtain ⟨d0, g0⟩ := hB.one 0 rfl
      obtain ⟨d1, g1⟩ := hB.one 1 rfl
      obtain ⟨d2, g2⟩ := hB.one 2 rfl
      obtain ⟨d3, g3⟩ := hB.one 3 rfl
      obtain ⟨d4, g4⟩ := hB.one 4 rfl
      obtain ⟨d5, g5⟩ := hB.one 5 rfl
      obtain ⟨d6, g6⟩ := hB.one 6 rfl
      obtain ⟨d7, g7⟩ := hB.one 7 rfl
      obtain ⟨d8, g8⟩ := hB.one 8 rfl
      clear hA hB
      go_wp2_with fail
      refine hK.out _ _ _ (fun u hu => hu) (⟨c0, c1, c2, c3, c4, c5, c6, c7, c8, d0, d1, d2, d3, d4, d5, d6, d7, d8⟩) ?_
      clear hK K
      refine mv_step (fun K hK => ?_)
      go_simp
      refine (RC.out _).mono ?_
      rintro e w2 ⟨rfl, hb2⟩
      have S2 := Lib.hid (S1.out.bel (hb2))
      clear hb2
      clear c0 f0 d0 g0 c1 f1 d1 g1 c2 f2 d2 g2 c3 f3 d3 g3 c4 f4 d4 g4 c5 f5 d5 g5 c6 f6 d6 g6 c7 f7 d7 g7 c8 f8 d8 g8
      have hA := S2.out.1
      have hB := S2.out.2.1
      obtain ⟨c0, f0⟩ := hA.one 0 rfl
      obtain ⟨c1, f1⟩ := hA.one 1 rfl
      obtain ⟨c2, f2⟩ := hA.one 2 rfl
      obtain ⟨c3, f3⟩ := hA.one 3 rfl
      obtain ⟨c4, f4⟩ := hA.one 4 rfl
      obtain ⟨c5, f5⟩ := hA.one 5 rfl
      obtain ⟨c6, f6⟩ := hA.one 6 rfl
      obtain ⟨c7, f7⟩ := hA.one 7 rfl
      obtain ⟨c8, f8⟩ := hA.one 8 rfl
      obtain ⟨d0, g0⟩ := hB.one 0 rfl
      obtain ⟨d1, g1⟩ := hB.one 1 rfl
      obtain ⟨d2, g2⟩ := hB.one 2 rfl
      obtain ⟨d3, g3⟩ := hB.one 3 rfl
      obtain ⟨d4, g4⟩ := hB.one 4 rfl
      obtain ⟨d5, g5⟩ := hB.one 5 rfl
      obtain ⟨d6, g6⟩ := hB.one 6 rfl
      obtain ⟨d7, g7⟩ := hB.one 7 rfl
      obtain ⟨d8, g8⟩ := hB.one 8 rfl
      clear hA hB
      go_wp2_with fail
      refine hK.out _ _ _ (fun u hu => hu) (⟨c0, c1, c2, c3, c4, c5, c6, c7, c8, d0, d1, d2, d3, d4, d5, d6, d7, d8⟩) ?_
      clear hK K
      refine mv_step (fun K hK => ?_)
      go_simp
      refine (RD.out _).mono ?_
      rintro e w3 ⟨rfl, hb3⟩
      have S3 := Lib.hid (S2.out.bel (hb3))
      clear hb3
      clear c0 f0 d0 g0 c1 f1 d1 g1 c2 f2 d2 g2 c3 f3 d3 g3 c4 f4 d4 g4 c5 f5 d5 g5 c6 f6 d6 g6 c7 f7 d7 g7 c8 f8 d8 g8
      have hA := S3.out.1
      have hB := S3.out.2.1
      obtain ⟨c0, f0⟩ := hA.one 0 rfl
      obtain ⟨c1, f1⟩ := hA.one 1 rfl
      obtain ⟨c2, f2⟩ := hA.one 2 rfl
      obtain ⟨c3, f3⟩ := hA.one 3 rfl
      obtain ⟨c4, f4⟩ := hA.one 4 rfl
      obtain ⟨c5, f5⟩ := hA.one 5 rfl
      obtain ⟨c6, f6⟩ := hA.one 6 rfl
      obtain ⟨c7, f7⟩ := hA.one 7 rfl
      obtain ⟨c8, f8⟩ := hA.one 8 rfl
      obtain ⟨d0, g0⟩ := hB.one 0 rfl
      obtain ⟨d1, g1⟩ := hB.one 1 rfl
      obtain ⟨d2, g2⟩ := hB.one 2 rfl
      obtain ⟨d3, g3⟩ := hB.one 3 rfl
      obtain ⟨d4, g4⟩ := hB.one 4 rfl
      obtain ⟨d5, g5⟩ := hB.one 5 rfl
      obtain ⟨d6, g6⟩ := hB.one 6 rfl
      obtain ⟨d7, g7⟩ := hB.one 7 rfl
      obtain ⟨d8, g8⟩ := hB.one 8 rfl
      clear hA hB
      have ck := S3.out.2.2.2.1.c 6 _ (mC_at (mul A B) _ _ (by omega))
      have fk := S3.out.2.2.2.1.f 6 (by rw [mC_len]; omega)
      have S4 := Lib.hid (S3.out.step (by omega))
      generalize mul A B 6 = x at *
      go_wp2_with fail
      refine hK.out _ _ _ (fun u hu => hu) (⟨c0, c1, c2, c3, c4, c5, c6, c7, c8, d0, d1, d2, d3, d4, d5, d6, d7, d8⟩) ?_
      clear hK K
      iterate 1
        first
          | (refine mv_free ?_ (Or.inl ⟨by rfl, ?_⟩) (⟨c0, c1, c2, c3, c4, c5, c6, c7, c8, d0, d1, d2, d3, d4, d5, d6, d7, d8⟩) ?_
             rotate_left 1
             · intro u
               go_simp
               try simp only [d1]
               try simp only [d2]
               try simp only [d3]
               try with_reducible rfl
             simp only [Act.put, List.setIfInBounds_toArray, List.set_cons_zero, List.set_cons_succ])
          | (refine mv_free _ (Or.inr ⟨by rfl, rfl⟩) (⟨c0, c1, c2, c3, c4, c5, c6, c7, c8, d0, d1, d2, d3, d4, d5, d6, d7, d8⟩) ?_
             simp only [Act.put, List.setIfInBounds_toArray, List.set_cons_zero, List.set_cons_succ])
      refine mv_late (fun K hK => ?_)
      go_simp
      refine hK.out (fun _ => True) _ _ ?_
      clear hK K
      refine mv_done ?_
      generalize w3.setCell ⟨w.heap.size + 3, 6, none⟩ (.int .i64 x) = w4 at *
      go_wp2
      go_roundw
      case rel => exact ⟨6 + 1, by omega, by first | rfl | go_num, S4⟩
      case measure => simp [intOf]
    · have RR := Lib.hid (fun u => rrow2 A u)
      have RC := Lib.hid (fun u => rcol1 B u)
      have RD := Lib.hid (fun u => show Calls Try.prog 33 #[.agg #[.int .i64 (A 6), .int .i64 (A 7), .int .i64 (A 8)], .agg #[.int .i64 (B 1), .int .i64 (B 4), .int .i64 (B 7)]] u fun e w' => e = .returned (.int .i64 (mul A B 7)) ∧ Below u.heap.size u w' from rdot12 (A 6) (A 7) (A 8) (B 1) (B 4) (B 7) u)
      have hA := S.out.1
      have hB := S.out.2.1
      obtain ⟨c0, f0⟩ := hA.one 0 rfl
      obtain ⟨c1, f1⟩ := hA.one 1 rfl
      obtain ⟨c2, f2⟩ := hA.one 2 rfl
      obtain ⟨c3, f3⟩ := hA.one 3 rfl
      obtain ⟨c4, f4⟩ := hA.one 4 rfl
      obtain ⟨c5, f5⟩ := hA.one 5 rfl
      obtain ⟨c6, f6⟩ := hA.one 6 rfl
      obtain ⟨c7, f7⟩ := hA.one 7 rfl
      obtain ⟨c8, f8⟩ := hA.one 8 rfl
      obtain ⟨d0, g0⟩ := hB.one 0 rfl
      obtain ⟨d1, g1⟩ := hB.one 1 rfl
      obtain ⟨d2, g2⟩ := hB.one 2 rfl
      obtain ⟨d3, g3⟩ := hB.one 3 rfl
      obtain ⟨d4, g4⟩ := hB.one 4 rfl
      obtain ⟨d5, g5⟩ := hB.one 5 rfl
      obtain ⟨d6, g6⟩ := hB.one 6 rfl
      obtain ⟨d7, g7⟩ := hB.one 7 rfl
      obtain ⟨d8, g8⟩ := hB.one 8 rfl
      clear hA hB
      go_wp2_with fail
      refine region_moves (fun u => u.cell? ⟨w.heap.size, 0, none⟩ = some (.int .i64 (A 0)) ∧ u.cell? ⟨w.heap.size, 1, none⟩ = some (.int .i64 (A 1)) ∧ u.cell? ⟨w.heap.size, 2, none⟩ = some (.int .i64 (A 2)) ∧ u.cell? ⟨w.heap.size, 3, none⟩ = some (.int .i64 (A 3)) ∧ u.cell? ⟨w.heap.size, 4, none⟩ = some (.int .i64 (A 4)) ∧ u.cell? ⟨w.heap.size, 5, none⟩ = some (.int .i64 (A 5)) ∧ u.cell? ⟨w.heap.size, 6, none⟩ = some (.int .i64 (A 6)) ∧ u.cell? ⟨w.heap.size, 7, none⟩ = some (.int .i64 (A 7)) ∧ u.cell? ⟨w.heap.size, 8, none⟩ = some (.int .i64 (A 8)) ∧ u.cell? ⟨w.heap.size + 1, 0, none⟩ = some (.int .i64 (B 0)) ∧ u.cell? ⟨w.heap.size + 1, 1, none⟩ = some (.int .i64 (B 1)) ∧ u.cell? ⟨w.heap.size + 1, 2, none⟩ = some (.int .i64 (B 2)) ∧ u.cell? ⟨w.heap.size + 1, 3, none⟩ = some (.int .i64 (B 3)) ∧ u.cell? ⟨w.heap.size + 1, 4, none⟩ = some (.int .i64 (B 4)) ∧ u.cell? ⟨w.heap.size + 1, 5, none⟩ = some (.int .i64 (B 5)) ∧ u.cell? ⟨w.heap.size + 1, 6, none⟩ = some (.int .i64 (B 6)) ∧ u.cell? ⟨w.heap.size + 1, 7, none⟩ = some (.int .i64 (B 7)) ∧ u.cell? ⟨w.heap.size + 1, 8, none⟩ = some (.int .i64 (B 8))) [(11, [(10, 11), (9, 11), (0, 11), (1, 11), (2, 11), (3, 11), (4, 11), (5, 11), (6, 11), (7, 11), (8, 11)])] [(.free, 0), (.take, 1), (.free, 2), (.free, 3), (.take, 5), (.free, 6), (.free, 7), (.step, 4), (.step, 8), (.step, 9), (.free, 10), (.late, 11)] _ (by kernel_rfl) (by kernel_rfl) (by kernel_rfl) (by kernel_rfl) (by decide) rfl (fun _ _ _ _ _ h => h) ?_
      simp only [List.filterMap_cons, List.filterMap_nil, List.getElem?_toArray, List.getElem?_cons_zero, List.getElem?_cons_succ, Option.map_some]
      iterate 1
        first
          | (refine mv_free ?_ (Or.inl ⟨by rfl, ?_⟩) (⟨c0, c1, c2, c3, c4, c5, c6, c7, c8, d0, d1, d2, d3, d4, d5, d6, d7, d8⟩) ?_
             rotate_left 1
             · intro u
               go_simp
               try simp only [d1]
               try simp only [d2]
               try simp only [d3]
               try with_reducible rfl
             simp only [Act.put, List.setIfInBounds_toArray, List.set_cons_zero, List.set_cons_succ])
          | (refine mv_free _ (Or.inr ⟨by rfl, rfl⟩) (⟨c0, c1, c2, c3, c4, c5, c6, c7, c8, d0, d1, d2, d3, d4, d5, d6, d7, d8⟩) ?_
             simp only [Act.put, List.setIfInBounds_toArray, List.set_cons_zero, List.set_cons_succ])
      iterate 1
        first
          | (refine mv_take ?_ (Or.inl ⟨by rfl, ?_⟩) (⟨c0, c1, c2, c3, c4, c5, c6, c7, c8, d0, d1, d2, d3, d4, d5, d6, d7, d8⟩) ?_
             rotate_left 1
             · intro u hu
               (try dsimp only at hu)
               go_simp
               try with_reducible rfl
             simp only [Act.put, List.setIfInBounds_toArray, List.set_cons_zero, List.set_cons_succ])
          | (refine mv_take _ (Or.inr ⟨by rfl, rfl⟩) (⟨c0, c1, c2, c3, c4, c5, c6, c7, c8, d0, d1, d2, d3, d4, d5, d6, d7, d8⟩) ?_
             simp only [Act.put, List.setIfInBounds_toArray, List.set_cons_zero, List.set_cons_succ])
      iterate 2
        first
          | (refine mv_free ?_ (Or.inl ⟨by rfl, ?_⟩) (⟨c0, c1, c2, c3, c4, c5, c6, c7, c8, d0, d1, d2, d3, d4, d5, d6, d7, d8⟩) ?_
             rotate_left 1
             · intro u
               go_simp
               try simp only [d1]
               try simp only [d2]
               try simp only [d3]
               try with_reducible rfl
             simp only [Act.put, List.setIfInBounds_toArray, List.set_cons_zero, List.set_cons_succ])
          | (refine mv_free _ (Or.inr ⟨by rfl, rfl⟩) (⟨c0, c1, c2, c3, c4, c5, c6, c7, c8, d0, d1, d2, d3, d4, d5, d6, d7, d8⟩) ?_
             simp only [Act.put, List.setIfInBounds_toArray, List.set_cons_zero, List.set_cons_succ])
      iterate 1
        first
          | (refine mv_take ?_ (Or.inl ⟨by rfl, ?_⟩) (⟨c0, c1, c2, c3, c4, c5, c6, c7, c8, d0, d1, d2, d3, d4, d5, d6, d7, d8⟩) ?_
             rotate_left 1
             · intro u hu
               (try dsimp only at hu)
               go_simp
               try with_reducible rfl
             simp only [Act.put, List.setIfInBounds_toArray, List.set_cons_zero, List.set_cons_succ])
          | (refine mv_take _ (Or.inr ⟨by rfl, rfl⟩) (⟨c0, c1, c2, c3, c4, c5, c6, c7, c8, d0, d1, d2, d3, d4, d5, d6, d7, d8⟩) ?_
             simp only [Act.put, List.setIfInBounds_toArray, List.set_cons_zero, List.set_cons_succ])
      iterate 2
        first
          | (refine mv_free ?_ (Or.inl ⟨by rfl, ?_⟩) (⟨c0, c1, c2, c3, c4, c5, c6, c7, c8, d0, d1, d2, d3, d4, d5, d6, d7, d8⟩) ?_
             rotate_left 1
             · intro u
               go_simp
               try simp only [d1]
               try simp only [d2]
               try simp only [d3]
               try with_reducible rfl
             simp only [Act.put, List.setIfInBounds_toArray, List.set_cons_zero, List.set_cons_succ])
          | (refine mv_free _ (Or.inr ⟨by rfl, rfl⟩) (⟨c0, c1, c2, c3, c4, c5, c6, c7, c8, d0, d1, d2, d3, d4, d5, d6, d7, d8⟩) ?_
             simp only [Act.put, List.setIfInBounds_toArray, List.set_cons_zero, List.set_cons_succ])
      refine mv_step (fun K hK => ?_)
      go_simp
      refine (RR.out _).mono ?_
      rintro e w1 ⟨rfl, hb1⟩
      have S1 := Lib.hid (S.out.bel ((Below.refl _ _).drew.trans hb1))
      clear hb1
      clear c0 f0 d0 g0 c1 f1 d1 g1 c2 f2 d2 g2 c3 f3 d3 g3 c4 f4 d4 g4 c5 f5 d5 g5 c6 f6 d6 g6 c7 f7 d7 g7 c8 f8 d8 g8
      have hA := S1.out.1
      have hB := S1.out.2.1
      obtain ⟨c0, f0⟩ := hA.one 0 rfl
      obtain ⟨c1, f1⟩ := hA.one 1 rfl
      obtain ⟨c2, f2⟩ := hA.one 2 rfl
      obtain ⟨c3, f3⟩ := hA.one 3 rfl
      obtain ⟨c4, f4⟩ := hA.one 4 rfl
      obtain ⟨c5, f5⟩ := hA.one 5 rfl
      obtain ⟨c6, f6⟩ := hA.one 6 rfl
      obtain ⟨c7, f7⟩ := hA.one 7 rfl
      obtain ⟨c8, f8⟩ := hA.one 8 rfl
      obtain ⟨d0, g0⟩ := hB.one 0 rfl
      obtain ⟨d1, g1⟩ := hB.one 1 rfl
      obtain ⟨d2, g2⟩ := hB.one 2 rfl
      obtain ⟨d3, g3⟩ := hB.one 3 rfl
      obtain ⟨d4, g4⟩ := hB.one 4 rfl
      obtain ⟨d5, g5⟩ := hB.one 5 rfl
      obtain ⟨d6, g6⟩ := hB.one 6 rfl
      obtain ⟨d7, g7⟩ := hB.one 7 rfl
      obtain ⟨d8, g8⟩ := hB.one 8 rfl
      clear hA hB
      go_wp2_with fail
      refine hK.out _ _ _ (fun u hu => hu) (⟨c0, c1, c2, c3, c4, c5, c6, c7, c8, d0, d1, d2, d3, d4, d5, d6, d7, d8⟩) ?_
      clear hK K
      refine mv_step (fun K hK => ?_)
      go_simp
      refine (RC.out _).mono ?_
      rintro e w2 ⟨rfl, hb2⟩
      have S2 := Lib.hid (S1.out.bel (hb2))
      clear hb2
      clear c0 f0 d0 g0 c1 f1 d1 g1 c2 f2 d2 g2 c3 f3 d3 g3 c4 f4 d4 g4 c5 f5 d5 g5 c6 f6 d6 g6 c7 f7 d7 g7 c8 f8 d8 g8
      have hA := S2.out.1
      have hB := S2.out.2.1
      obtain ⟨c0, f0⟩ := hA.one 0 rfl
      obtain ⟨c1, f1⟩ := hA.one 1 rfl
      obtain ⟨c2, f2⟩ := hA.one 2 rfl
      obtain ⟨c3, f3⟩ := hA.one 3 rfl
      obtain ⟨c4, f4⟩ := hA.one 4 rfl
      obtain ⟨c5, f5⟩ := hA.one 5 rfl
      obtain ⟨c6, f6⟩ := hA.one 6 rfl
      obtain ⟨c7, f7⟩ := hA.one 7 rfl
      obtain ⟨c8, f8⟩ := hA.one 8 rfl
      obtain ⟨d0, g0⟩ := hB.one 0 rfl
      obtain ⟨d1, g1⟩ := hB.one 1 rfl
      obtain ⟨d2, g2⟩ := hB.one 2 rfl
      obtain ⟨d3, g3⟩ := hB.one 3 rfl
      obtain ⟨d4, g4⟩ := hB.one 4 rfl
      obtain ⟨d5, g5⟩ := hB.one 5 rfl
      obtain ⟨d6, g6⟩ := hB.one 6 rfl
      obtain ⟨d7, g7⟩ := hB.one 7 rfl
      obtain ⟨d8, g8⟩ := hB.one 8 rfl
      clear hA hB
      go_wp2_with fail
      refine hK.out _ _ _ (fun u hu => hu) (⟨c0, c1, c2, c3, c4, c5, c6, c7, c8, d0, d1, d2, d3, d4, d5, d6, d7, d8⟩) ?_
      clear hK K
      refine mv_step (fun K hK => ?_)
      go_simp
      refine (RD.out _).mono ?_
      rintro e w3 ⟨rfl, hb3⟩
      have S3 := Lib.hid (S2.out.bel (hb3))
      clear hb3
      clear c0 f0 d0 g0 c1 f1 d1 g1 c2 f2 d2 g2 c3 f3 d3 g3 c4 f4 d4 g4 c5 f5 d5 g5 c6 f6 d6 g6 c7 f7 d7 g7 c8 f8 d8 g8
      have hA := S3.out.1
      have hB := S3.out.2.1
      obtain ⟨c0, f0⟩ := hA.one 0 rfl
      obtain ⟨c1, f1⟩ := hA.one 1 rfl
      obtain ⟨c2, f2⟩ := hA.one 2 rfl
      obtain ⟨c3, f3⟩ := hA.one 3 rfl
      obtain ⟨c4, f4⟩ := hA.one 4 rfl
      obtain ⟨c5, f5⟩ := hA.one 5 rfl
      obtain ⟨c6, f6⟩ := hA.one 6 rfl
      obtain ⟨c7, f7⟩ := hA.one 7 rfl
      obtain ⟨c8, f8⟩ := hA.one 8 rfl
      obtain ⟨d0, g0⟩ := hB.one 0 rfl
      obtain ⟨d1, g1⟩ := hB.one 1 rfl
      obtain ⟨d2, g2⟩ := hB.one 2 rfl
      obtain ⟨d3, g3⟩ := hB.one 3 rfl
      obtain ⟨d4, g4⟩ := hB.one 4 rfl
      obtain ⟨d5, g5⟩ := hB.one 5 rfl
      obtain ⟨d6, g6⟩ := hB.one 6 rfl
      obtain ⟨d7, g7⟩ := hB.one 7 rfl
      obtain ⟨d8, g8⟩ := hB.one 8 rfl
      clear hA hB
      have ck := S3.out.2.2.2.1.c 7 _ (mC_at (mul A B) _ _ (by omega))
      have fk := S3.out.2.2.2.1.f 7 (by rw [mC_len]; omega)
      have S4 := Lib.hid (S3.out.step (by omega))
      generalize mul A B 7 = x at *
      go_wp2_with fail
      refine hK.out _ _ _ (fun u hu => hu) (⟨c0, c1, c2, c3, c4, c5, c6, c7, c8, d0, d1, d2, d3, d4, d5, d6, d7, d8⟩) ?_
      clear hK K
      iterate 1
        first
          | (refine mv_free ?_ (Or.inl ⟨by rfl, ?_⟩) (⟨c0, c1, c2, c3, c4, c5, c6, c7, c8, d0, d1, d2, d3, d4, d5, d6, d7, d8⟩) ?_
             rotate_left 1
             · intro u
               go_simp
               try simp only [d1]
               try simp only [d2]
               try simp only [d3]
               try with_reducible rfl
             simp only [Act.put, List.setIfInBounds_toArray, List.set_cons_zero, List.set_cons_succ])
          | (refine mv_free _ (Or.inr ⟨by rfl, rfl⟩) (⟨c0, c1, c2, c3, c4, c5, c6, c7, c8, d0, d1, d2, d3, d4, d5, d6, d7, d8⟩) ?_
             simp only [Act.put, List.setIfInBounds_toArray, List.set_cons_zero, List.set_cons_succ])
      refine mv_late (fun K hK => ?_)
      go_simp
      refine hK.out (fun _ => True) _ _ ?_
      clear hK K
      refine mv_done ?_
      generalize w3.setCell ⟨w.heap.size + 3, 7, none⟩ (.int .i64 x) = w4 at *
      go_wp2
      go_roundw
      case rel => exact ⟨7 + 1, by omega, by first | rfl | go_num, S4⟩
      case measure => simp [intOf]
    · have RR := Lib.hid (fun u => rrow2 A u)
      have RC := Lib.hid (fun u => rcol2 B u)
      have RD := Lib.hid (fun u => show Calls Try.prog 33 #[.agg #[.int .i64 (A 6), .int .i64 (A 7), .int .i64 (A 8)], .agg #[.int .i64 (B 2), .int .i64 (B 5), .int .i64 (B 8)]] u fun e w' => e = .returned (.int .i64 (mul A B 8)) ∧ Below u.heap.size u w' from rdot12 (A 6) (A 7) (A 8) (B 2) (B 5) (B 8) u)
      have hA := S.out.1
      have hB := S.out.2.1
      obtain ⟨c0, f0⟩ := hA.one 0 rfl
      obtain ⟨c1, f1⟩ := hA.one 1 rfl
      obtain ⟨c2, f2⟩ := hA.one 2 rfl
      obtain ⟨c3, f3⟩ := hA.one 3 rfl
      obtain ⟨c4, f4⟩ := hA.one 4 rfl
      obtain ⟨c5, f5⟩ := hA.one 5 rfl
      obtain ⟨c6, f6⟩ := hA.one 6 rfl
      obtain ⟨c7, f7⟩ := hA.one 7 rfl
      obtain ⟨c8, f8⟩ := hA.one 8 rfl
      obtain ⟨d0, g0⟩ := hB.one 0 rfl
      obtain ⟨d1, g1⟩ := hB.one 1 rfl
      obtain ⟨d2, g2⟩ := hB.one 2 rfl
      obtain ⟨d3, g3⟩ := hB.one 3 rfl
      obtain ⟨d4, g4⟩ := hB.one 4 rfl
      obtain ⟨d5, g5⟩ := hB.one 5 rfl
      obtain ⟨d6, g6⟩ := hB.one 6 rfl
      obtain ⟨d7, g7⟩ := hB.one 7 rfl
      obtain ⟨d8, g8⟩ := hB.one 8 rfl
      clear hA hB
      go_wp2_with fail
      refine region_moves (fun u => u.cell? ⟨w.heap.size, 0, none⟩ = some (.int .i64 (A 0)) ∧ u.cell? ⟨w.heap.size, 1, none⟩ = some (.int .i64 (A 1)) ∧ u.cell? ⟨w.heap.size, 2, none⟩ = some (.int .i64 (A 2)) ∧ u.cell? ⟨w.heap.size, 3, none⟩ = some (.int .i64 (A 3)) ∧ u.cell? ⟨w.heap.size, 4, none⟩ = some (.int .i64 (A 4)) ∧ u.cell? ⟨w.heap.size, 5, none⟩ = some (.int .i64 (A 5)) ∧ u.cell? ⟨w.heap.size, 6, none⟩ = some (.int .i64 (A 6)) ∧ u.cell? ⟨w.heap.size, 7, none⟩ = some (.int .i64 (A 7)) ∧ u.cell? ⟨w.heap.size, 8, none⟩ = some (.int .i64 (A 8)) ∧ u.cell? ⟨w.heap.size + 1, 0, none⟩ = some (.int .i64 (B 0)) ∧ u.cell? ⟨w.heap.size + 1, 1, none⟩ = some (.int .i64 (B 1)) ∧ u.cell? ⟨w.heap.size + 1, 2, none⟩ = some (.int .i64 (B 2)) ∧ u.cell? ⟨w.heap.size + 1, 3, none⟩ = some (.int .i64 (B 3)) ∧ u.cell? ⟨w.heap.size + 1, 4, none⟩ = some (.int .i64 (B 4)) ∧ u.cell? ⟨w.heap.size + 1, 5, none⟩ = some (.int .i64 (B 5)) ∧ u.cell? ⟨w.heap.size + 1, 6, none⟩ = some (.int .i64 (B 6)) ∧ u.cell? ⟨w.heap.size + 1, 7, none⟩ = some (.int .i64 (B 7)) ∧ u.cell? ⟨w.heap.size + 1, 8, none⟩ = some (.int .i64 (B 8))) [(11, [(10, 11), (9, 11), (0, 11), (1, 11), (2, 11), (3, 11), (4, 11), (5, 11), (6, 11), (7, 11), (8, 11)])] [(.free, 0), (.take, 1), (.free, 2), (.free, 3), (.take, 5), (.free, 6), (.free, 7), (.step, 4), (.step, 8), (.step, 9), (.free, 10), (.late, 11)] _ (by kernel_rfl) (by kernel_rfl) (by kernel_rfl) (by kernel_rfl) (by decide) rfl (fun _ _ _ _ _ h => h) ?_
      simp only [List.filterMap_cons, List.filterMap_nil, List.getElem?_toArray, List.getElem?_cons_zero, List.getElem?_cons_succ, Option.map_some]
      iterate 1
        first
          | (refine mv_free ?_ (Or.inl ⟨by rfl, ?_⟩) (⟨c0, c1, c2, c3, c4, c5, c6, c7, c8, d0, d1, d2, d3, d4, d5, d6, d7, d8⟩) ?_
             rotate_left 1
             · intro u
               go_simp
               try simp only [d1]
               try simp only [d2]
               try simp only [d3]
               try with_reducible rfl
             simp only [Act.put, List.setIfInBounds_toArray, List.set_cons_zero, List.set_cons_succ])
          | (refine mv_free _ (Or.inr ⟨by rfl, rfl⟩) (⟨c0, c1, c2, c3, c4, c5, c6, c7, c8, d0, d1, d2, d3, d4, d5, d6, d7, d8⟩) ?_
             simp only [Act.put, List.setIfInBounds_toArray, List.set_cons_zero, List.set_cons_succ])
      iterate 1
        first
          | (refine mv_take ?_ (Or.inl ⟨by rfl, ?_⟩) (⟨c0, c1, c2, c3, c4, c5, c6, c7, c8, d0, d1, d2, d3, d4, d5, d6, d7, d8⟩) ?_
             rotate_left 1
             · intro u hu
               (try dsimp only at hu)
               go_simp
               try with_reducible rfl
             simp only [Act.put, List.setIfInBounds_toArray, List.set_cons_zero, List.set_cons_succ])
          | (refine mv_take _ (Or.inr ⟨by rfl, rfl⟩) (⟨c0, c1, c2, c3, c4, c5, c6, c7, c8, d0, d1, d2, d3, d4, d5, d6, d7, d8⟩) ?_
             simp only [Act.put, List.setIfInBounds_toArray, List.set_cons_zero, List.set_cons_succ])
      iterate 2
        first
          | (refine mv_free ?_ (Or.inl ⟨by rfl, ?_⟩) (⟨c0, c1, c2, c3, c4, c5, c6, c7, c8, d0, d1, d2, d3, d4, d5, d6, d7, d8⟩) ?_
             rotate_left 1
             · intro u
               go_simp
               try simp only [d1]
               try simp only [d2]
               try simp only [d3]
               try with_reducible rfl
             simp only [Act.put, List.setIfInBounds_toArray, List.set_cons_zero, List.set_cons_succ])
          | (refine mv_free _ (Or.inr ⟨by rfl, rfl⟩) (⟨c0, c1, c2, c3, c4, c5, c6, c7, c8, d0, d1, d2, d3, d4, d5, d6, d7, d8⟩) ?_
             simp only [Act.put, List.setIfInBounds_toArray, List.set_cons_zero, List.set_cons_succ])
      iterate 1
        first
          | (refine mv_take ?_ (Or.inl ⟨by rfl, ?_⟩) (⟨c0, c1, c2, c3, c4, c5, c6, c7, c8, d0, d1, d2, d3, d4, d5, d6, d7, d8⟩) ?_
             rotate_left 1
             · intro u hu
               (try dsimp only at hu)
               go_simp
               try with_reducible rfl
             simp only [Act.put, List.setIfInBounds_toArray, List.set_cons_zero, List.set_cons_succ])
          | (refine mv_take _ (Or.inr ⟨by rfl, rfl⟩) (⟨c0, c1, c2, c3, c4, c5, c6, c7, c8, d0, d1, d2, d3, d4, d5, d6, d7, d8⟩) ?_
             simp only [Act.put, List.setIfInBounds_toArray, List.set_cons_zero, List.set_cons_succ])
      iterate 2
        first
          | (refine mv_free ?_ (Or.inl ⟨by rfl, ?_⟩) (⟨c0, c1, c2, c3, c4, c5, c6, c7, c8, d0, d1, d2, d3, d4, d5, d6, d7, d8⟩) ?_
             rotate_left 1
             · intro u
               go_simp
               try simp only [d1]
               try simp only [d2]
               try simp only [d3]
               try with_reducible rfl
             simp only [Act.put, List.setIfInBounds_toArray, List.set_cons_zero, List.set_cons_succ])
          | (refine mv_free _ (Or.inr ⟨by rfl, rfl⟩) (⟨c0, c1, c2, c3, c4, c5, c6, c7, c8, d0, d1, d2, d3, d4, d5, d6, d7, d8⟩) ?_
             simp only [Act.put, List.setIfInBounds_toArray, List.set_cons_zero, List.set_cons_succ])
      refine mv_step (fun K hK => ?_)
      go_simp
      refine (RR.out _).mono ?_
      rintro e w1 ⟨rfl, hb1⟩
      have S1 := Lib.hid (S.out.bel ((Below.refl _ _).drew.trans hb1))
      clear hb1
      clear c0 f0 d0 g0 c1 f1 d1 g1 c2 f2 d2 g2 c3 f3 d3 g3 c4 f4 d4 g4 c5 f5 d5 g5 c6 f6 d6 g6 c7 f7 d7 g7 c8 f8 d8 g8
      have hA := S1.out.1
      have hB := S1.out.2.1
      obtain ⟨c0, f0⟩ := hA.one 0 rfl
      obtain ⟨c1, f1⟩ := hA.one 1 rfl
      obtain ⟨c2, f2⟩ := hA.one 2 rfl
      obtain ⟨c3, f3⟩ := hA.one 3 rfl
      obtain ⟨c4, f4⟩ := hA.one 4 rfl
      obtain ⟨c5, f5⟩ := hA.one 5 rfl
      obtain ⟨c6, f6⟩ := hA.one 6 rfl
      obtain ⟨c7, f7⟩ := hA.one 7 rfl
      obtain ⟨c8, f8⟩ := hA.one 8 rfl
      obtain ⟨d0, g0⟩ := hB.one 0 rfl
      obtain ⟨d1, g1⟩ := hB.one 1 rfl
      obtain ⟨d2, g2⟩ := hB.one 2 rfl
      obtain ⟨d3, g3⟩ := hB.one 3 rfl
      obtain ⟨d4, g4⟩ := hB.one 4 rfl
      obtain ⟨d5, g5⟩ := hB.one 5 rfl
      obtain ⟨d6, g6⟩ := hB.one 6 rfl
      obtain ⟨d7, g7⟩ := hB.one 7 rfl
      obtain ⟨d8, g8⟩ := hB.one 8 rfl
      clear hA hB
      go_wp2_with fail
      refine hK.out _ _ _ (fun u hu => hu) (⟨c0, c1, c2, c3, c4, c5, c6, c7, c8, d0, d1, d2, d3, d4, d5, d6, d7, d8⟩) ?_
      clear hK K
      refine mv_step (fun K hK => ?_)
      go_simp
      refine (RC.out _).mono ?_
      rintro e w2 ⟨rfl, hb2⟩
      have S2 := Lib.hid (S1.out.bel (hb2))
      clear hb2
      clear c0 f0 d0 g0 c1 f1 d1 g1 c2 f2 d2 g2 c3 f3 d3 g3 c4 f4 d4 g4 c5 f5 d5 g5 c6 f6 d6 g6 c7 f7 d7 g7 c8 f8 d8 g8
      have hA := S2.out.1
      have hB := S2.out.2.1
      obtain ⟨c0, f0⟩ := hA.one 0 rfl
      obtain ⟨c1, f1⟩ := hA.one 1 rfl
      obtain ⟨c2, f2⟩ := hA.one 2 rfl
      obtain ⟨c3, f3⟩ := hA.one 3 rfl
      obtain ⟨c4, f4⟩ := hA.one 4 rfl
      obtain ⟨c5, f5⟩ := hA.one 5 rfl
      obtain ⟨c6, f6⟩ := hA.one 6 rfl
      obtain ⟨c7, f7⟩ := hA.one 7 rfl
      obtain ⟨c8, f8⟩ := hA.one 8 rfl
      obtain ⟨d0, g0⟩ := hB.one 0 rfl
      obtain ⟨d1, g1⟩ := hB.one 1 rfl
      obtain ⟨d2, g2⟩ := hB.one 2 rfl
      obtain ⟨d3, g3⟩ := hB.one 3 rfl
      obtain ⟨d4, g4⟩ := hB.one 4 rfl
      obtain ⟨d5, g5⟩ := hB.one 5 rfl
      obtain ⟨d6, g6⟩ := hB.one 6 rfl
      obtain ⟨d7, g7⟩ := hB.one 7 rfl
      obtain ⟨d8, g8⟩ := hB.one 8 rfl
      clear hA hB
      go_wp2_with fail
      refine hK.out _ _ _ (fun u hu => hu) (⟨c0, c1, c2, c3, c4, c5, c6, c7, c8, d0, d1, d2, d3, d4, d5, d6, d7, d8⟩) ?_
      clear hK K
      refine mv_step (fun K hK => ?_)
      go_simp
      refine (RD.out _).mono ?_
      rintro e w3 ⟨rfl, hb3⟩
      have S3 := Lib.hid (S2.out.bel (hb3))
      clear hb3
      clear c0 f0 d0 g0 c1 f1 d1 g1 c2 f2 d2 g2 c3 f3 d3 g3 c4 f4 d4 g4 c5 f5 d5 g5 c6 f6 d6 g6 c7 f7 d7 g7 c8 f8 d8 g8
      have hA := S3.out.1
      have hB := S3.out.2.1
      obtain ⟨c0, f0⟩ := hA.one 0 rfl
      obtain ⟨c1, f1⟩ := hA.one 1 rfl
      obtain ⟨c2, f2⟩ := hA.one 2 rfl
      obtain ⟨c3, f3⟩ := hA.one 3 rfl
      obtain ⟨c4, f4⟩ := hA.one 4 rfl
      obtain ⟨c5, f5⟩ := hA.one 5 rfl
      obtain ⟨c6, f6⟩ := hA.one 6 rfl
      obtain ⟨c7, f7⟩ := hA.one 7 rfl
      obtain ⟨c8, f8⟩ := hA.one 8 rfl
      obtain ⟨d0, g0⟩ := hB.one 0 rfl
      obtain ⟨d1, g1⟩ := hB.one 1 rfl
      obtain ⟨d2, g2⟩ := hB.one 2 rfl
      obtain ⟨d3, g3⟩ := hB.one 3 rfl
      obtain ⟨d4, g4⟩ := hB.one 4 rfl
      obtain ⟨d5, g5⟩ := hB.one 5 rfl
      obtain ⟨d6, g6⟩ := hB.one 6 rfl
      obtain ⟨d7, g7⟩ := hB.one 7 rfl
      obtain ⟨d8, g8⟩ := hB.one 8 rfl
      clear hA hB
      have ck := S3.out.2.2.2.1.c 8 _ (mC_at (mul A B) _ _ (by omega))
      have fk := S3.out.2.2.2.1.f 8 (by rw [mC_len]; omega)
      have S4 := Lib.hid (S3.out.step (by omega))
      generalize mul A B 8 = x at *
      go_wp2_with fail
      refine hK.out _ _ _ (fun u hu => hu) (⟨c0, c1, c2, c3, c4, c5, c6, c7, c8, d0, d1, d2, d3, d4, d5, d6, d7, d8⟩) ?_
      clear hK K
      iterate 1
        first
          | (refine mv_free ?_ (Or.inl ⟨by rfl, ?_⟩) (⟨c0, c1, c2, c3, c4, c5, c6, c7, c8, d0, d1, d2, d3, d4, d5, d6, d7, d8⟩) ?_
             rotate_left 1
             · intro u
               go_simp
               try simp only [d1]
               try simp only [d2]
               try simp only [d3]
               try with_reducible rfl
             simp only [Act.put, List.setIfInBounds_toArray, List.set_cons_zero, List.set_cons_succ])
          | (refine mv_free _ (Or.inr ⟨by rfl, rfl⟩) (⟨c0, c1, c2, c3, c4, c5, c6, c7, c8, d0, d1, d2, d3, d4, d5, d6, d7, d8⟩) ?_
             simp only [Act.put, List.setIfInBounds_toArray, List.set_cons_zero, List.set_cons_succ])
      refine mv_late (fun K hK => ?_)
      go_simp
      refine hK.out (fun _ => True) _ _ ?_
      clear hK K
      refine mv_done ?_
      generalize w3.setCell ⟨w.heap.size + 3, 8, none⟩ (.int .i64 x) = w4 at *
      go_wp2
      go_roundw
      case rel => exact ⟨8 + 1, by omega, by first | rfl | go_num, S4⟩
      case measure => simp [intOf]
    · obtain ⟨hA, hB, hR, hM, hb⟩ := S.out
      rw [mC_all] at hM
      obtain ⟨u9, e9, h9, b9⟩ := ml_laid hR rfl (mul A B)
      have hb9 := Lib.hid (hb.trans (b9.mono (by omega)))
      replace e9 := Lib.hid e9
      obtain ⟨p0, q0⟩ := hR.one 0 rfl
      obtain ⟨p1, q1⟩ := hR.one 1 rfl
      obtain ⟨p2, q2⟩ := hR.one 2 rfl
      obtain ⟨p3, q3⟩ := hR.one 3 rfl
      obtain ⟨p4, q4⟩ := hR.one 4 rfl
      obtain ⟨p5, q5⟩ := hR.one 5 rfl
      obtain ⟨p6, q6⟩ := hR.one 6 rfl
      obtain ⟨p7, q7⟩ := hR.one 7 rfl
      obtain ⟨p8, q8⟩ := hR.one 8 rfl
      obtain ⟨c0, f0⟩ := hM.one 0 rfl
      obtain ⟨c1, f1⟩ := hM.one 1 rfl
      obtain ⟨c2, f2⟩ := hM.one 2 rfl
      obtain ⟨c3, f3⟩ := hM.one 3 rfl
      obtain ⟨c4, f4⟩ := hM.one 4 rfl
      obtain ⟨c5, f5⟩ := hM.one 5 rfl
      obtain ⟨c6, f6⟩ := hM.one 6 rfl
      obtain ⟨c7, f7⟩ := hM.one 7 rfl
      obtain ⟨c8, f8⟩ := hM.one 8 rfl
      clear S hA hB hR hM hb b9
      go_wp2
      rw [← e9.out]
      obtain ⟨y0, z0⟩ := h9.one 0 rfl
      obtain ⟨y1, z1⟩ := h9.one 1 rfl
      obtain ⟨y2, z2⟩ := h9.one 2 rfl
      obtain ⟨y3, z3⟩ := h9.one 3 rfl
      obtain ⟨y4, z4⟩ := h9.one 4 rfl
      obtain ⟨y5, z5⟩ := h9.one 5 rfl
      obtain ⟨y6, z6⟩ := h9.one 6 rfl
      obtain ⟨y7, z7⟩ := h9.one 7 rfl
      obtain ⟨y8, z8⟩ := h9.one 8 rfl
      exact bodyPost_ret (v := .agg #[.int .i64 ((mul A B) 0), .int .i64 ((mul A B) 1), .int .i64 ((mul A B) 2), .int .i64 ((mul A B) 3), .int .i64 ((mul A B) 4), .int .i64 ((mul A B) 5), .int .i64 ((mul A B) 6), .int .i64 ((mul A B) 7), .int .i64 ((mul A B) 8)]) (by simp [results, Try.results39, go_sem, y0, y1, y2, y3, y4, y5, y6, y7, y8]) rfl ⟨rfl, hb9.out⟩
end Go.Proofs.Ytakocggclopngaa
