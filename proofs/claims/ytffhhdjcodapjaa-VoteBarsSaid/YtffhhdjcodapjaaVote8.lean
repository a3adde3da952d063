/- The law VoteBars; walked. -/
import Derived.Test.YtffhhdjcodapjaaVote7
namespace Go.Proofs.Ytffhhdjcodapjaa
open Go.ChangeShapes Go.WideShapes Go.ChangeAt Go.RowKit
set_option linter.unusedVariables false
set_option linter.unusedSimpArgs false
theorem clq_mono {a b : Int} (h : a ≤ b) : clq a ≤ clq b := by unfold clq; omega
theorem spr_clq (X E : Nat → Int) : ∀ k, (spr (fun i => clq (X i)) E k).1 = (spr X E k).1 ∧ (spr (fun i => clq (X i)) E k).2.1 = clq (spr X E k).2.1 ∧ (spr (fun i => clq (X i)) E k).2.2 = clq (spr X E k).2.2 ∧ (spr X E k).2.1 ≤ (spr X E k).2.2
  | 0 => by
    have c0 : clq 0 = 0 := by unfold clq; omega
    show false = false ∧ (0 : Int) = clq 0 ∧ (0 : Int) = clq 0 ∧ (0 : Int) ≤ 0
    rw [c0]
    simp
  | k + 1 => by
    obtain ⟨h1, h2, h3, h4⟩ := spr_clq X E k
    by_cases e : E k = 0
    · obtain ⟨fd, lo, hi, hs⟩ : ∃ fd lo hi, spr X E k = (fd, lo, hi) := ⟨_, _, _, rfl⟩
      obtain ⟨fd', lo', hi', hs'⟩ : ∃ fd lo hi, spr (fun i => clq (X i)) E k = (fd, lo, hi) := ⟨_, _, _, rfl⟩
      rw [hs] at h1 h2 h3 h4
      rw [hs'] at h1 h2 h3
      simp only at h1 h2 h3 h4
      subst h1 h2 h3
      rw [spr_hit hs e, spr_hit hs' e]
      simp only
      cases fd'
      · simp
      · simp only [if_true]
        have m1 : lo ≤ X k → clq lo ≤ clq (X k) := clq_mono
        have m2 : X k ≤ lo → clq (X k) ≤ clq lo := clq_mono
        have m3 : hi ≤ X k → clq hi ≤ clq (X k) := clq_mono
        have m4 : X k ≤ hi → clq (X k) ≤ clq hi := clq_mono
        refine ⟨trivial, ?_, ?_, by omega⟩
        · rcases Int.le_total lo (X k) with q | q
          · rw [Int.min_eq_left q, Int.min_eq_left (m1 q)]
          · rw [Int.min_eq_right q, Int.min_eq_right (m2 q)]
        · rcases Int.le_total hi (X k) with q | q
          · rw [Int.max_eq_right q, Int.max_eq_right (m3 q)]
          · rw [Int.max_eq_left q, Int.max_eq_left (m4 q)]
    · rw [spr_miss e, spr_miss e]
      exact ⟨h1, h2, h3, h4⟩
theorem bars_box (B : Nat → Bool) (X E : Nat → Int) (w : World) : ∃ V, V = (w.alloc (.cells #[.int .i64 (X 0), .int .i64 (E 0), .int .i64 (X 1), .int .i64 (E 1), .int .i64 (X 2), .int .i64 (E 2)] 40)).alloc (.cells #[.bool (B 0), .bool (B 1), .bool (B 2)] 41) ∧ Held w.heap.size (pr6 X E) V ∧ Held (w.heap.size + 1) (b3C B) V ∧ Below w.heap.size w V ∧ V.heap.size = w.heap.size + 2 := by
  refine ⟨_, rfl, (Held.new w (pr6 X E) 40).alloc _, ?_, (by repeat (first | exact Below.refl _ _ | assumption | apply Below.drew | apply below_drewN | (refine Below.alloc ?_ (by first | exact Nat.le_refl _ | omega | (simp <;> omega)) _) | (refine Below.setCell ?_ (by first | exact Nat.le_refl _ | omega | (simp <;> omega)) _))), by simp⟩
  have := Held.new (w.alloc (.cells #[.int .i64 (X 0), .int .i64 (E 0), .int .i64 (X 1), .int .i64 (E 1), .int .i64 (X 2), .int .i64 (E 2)] 40)) (b3C B) 41
  simpa [b3C] using this
/-- What the law holds. -/
structure BsK (B : Nat → Bool) (X E X' E' : Nat → Int) (g : Nat) (w u : World) : Prop where
  x : Held w.heap.size (pr6 X E) u
  b : Held (w.heap.size + 1) (b3C B) u
  c : Held g (pr6 X' E') u
  bel : Below w.heap.size w u
theorem BsK.next {B : Nat → Bool} {X E X' E' : Nat → Int} {g : Nat} {w u u' : World} (h : BsK B X E X' E' g w u) (k : Below u.heap.size u u') : BsK B X E X' E' g w u' := ⟨h.x.bel k, h.b.bel k, h.c.bel k, h.bel.trans (k.mono h.bel.size)⟩
set_option maxRecDepth 100000 in
set_option maxHeartbeats 8000000 in
theorem law_VoteBars (B : Nat → Bool) (X E : Nat → Int) (w : World) : Calls Try.prog 4 #[.agg #[.int .i64 (X 0), .int .i64 (E 0), .int .i64 (X 1), .int .i64 (E 1), .int .i64 (X 2), .int .i64 (E 2)], .agg #[.bool (B 0), .bool (B 1), .bool (B 2)]] w fun e w' => e = .returned (.bool true) ∧ Below w.heap.size w w' := by
  obtain ⟨V, eV, hx, hb, hB, hz⟩ := bars_box B X E w
  obtain ⟨X', eX⟩ : ∃ X', bX B X 3 = X' := ⟨_, rfl⟩
  obtain ⟨E', eE⟩ : ∃ E', bE B E 3 = E' := ⟨_, rfl⟩
  have VB : ∀ u, Calls Try.prog 18 #[.agg #[.int .i64 (X 0), .int .i64 (E 0), .int .i64 (X 1), .int .i64 (E 1), .int .i64 (X 2), .int .i64 (E 2)], .agg #[.bool (B 0), .bool (B 1), .bool (B 2)]] u fun e w' => e = .returned (.agg #[.int .i64 (X' 0), .int .i64 (E' 0), .int .i64 (X' 1), .int .i64 (E' 1), .int .i64 (X' 2), .int .i64 (E' 2)]) ∧ Below u.heap.size u w' := fun u => by
    have := vbar B X E u
    rw [eX, eE] at this
    exact this
  have hX : ∀ k, k < 3 → X' k = (if B k then 0 else X k) ∧ E' k = (if B k then 10 else E k) := fun k h => by
    rw [← eX, ← eE]
    unfold bX bE
    rw [if_pos h, if_pos h]
    exact ⟨rfl, rfl⟩
  replace hX := Lib.hid hX
  replace VB := Lib.hid VB
  clear eX eE
  have SP := fun u => vspread X E u
  obtain ⟨h1, h2, h3, h4⟩ := spr_clq X E 3
  obtain ⟨S0, eS⟩ : ∃ S0, spr (fun i => clq (X i)) E 3 = S0 := ⟨_, rfl⟩
  obtain ⟨fd0, lo0, hi0⟩ := S0
  rw [eS] at h1 h2 h3
  have ap : apt (spr X E 3).2.2 (spr X E 3).2.1 = hi0 - lo0 := by
    have := clq_mono h4
    simp only at h2 h3
    unfold apt
    omega
  rw [ap, ← h1] at SP
  replace SP := Lib.hid SP
  have lb : -549755813887 ≤ lo0 ∧ lo0 ≤ 549755813887 ∧ -549755813887 ≤ hi0 ∧ hi0 ≤ 549755813887 := by
    have a := clq_bd (spr X E 3).2.1
    have b := clq_bd (spr X E 3).2.2
    simp only at h2 h3
    omega
  clear h1 h2 h3 h4 ap
  replace eS := Lib.hid eS
  replace eV := Lib.hid eV
  have LV := Lib.hid (fun u => lives24 u)
  have hx2 := hx
  have hb2 := hb
  simp only [pr6] at hx2
  simp only [b3C] at hb2
  obtain ⟨c0, f0⟩ := hx2.one 0 rfl
  obtain ⟨c1, f1⟩ := hx2.one 1 rfl
  obtain ⟨c2, f2⟩ := hx2.one 2 rfl
  obtain ⟨c3, f3⟩ := hx2.one 3 rfl
  obtain ⟨c4, f4⟩ := hx2.one 4 rfl
  obtain ⟨c5, f5⟩ := hx2.one 5 rfl
  obtain ⟨d0, g0⟩ := hb2.one 0 rfl
  obtain ⟨d1, g1⟩ := hb2.one 1 rfl
  obtain ⟨d2, g2⟩ := hb2.one 2 rfl
  clear hx2 hb2
  go_enter Try.func4, Try.ntmps4
  go_upto_region 1 with (fail)
  rw [← eV.out]
  go_wp2_with (go_at_call 18; refine (VB.out _).mono ?_; rintro e w1 ⟨rfl, hb1⟩)
  have K1 := Lib.hid (show BsK B X E X' E' w1.heap.size w _ from ⟨(hx.bel hb1).alloc (.cells #[.int .i64 (X' 0), .int .i64 (E' 0), .int .i64 (X' 1), .int .i64 (E' 1), .int .i64 (X' 2), .int .i64 (E' 2)] 40), (hb.bel hb1).alloc _, Held.new w1 (pr6 X' E') 40, (hB.trans (hb1.mono hB.size)).alloc (by have := hB.size; have := hb1.size; omega) _⟩)
  have hg : w.heap.size + 2 ≤ w1.heap.size := by have := hb1.size; omega
  obtain ⟨g, eg⟩ : ∃ g, w1.heap.size = g := ⟨_, rfl⟩
  rw [eg] at K1 hg ⊢
  clear eg hx hb hB c0 c1 c2 c3 c4 c5 f0 f1 f2 f3 f4 f5 d0 d1 d2 g0 g1 g2 VB
  go_loopw [6, 7, 8, 9] (fun s6 s7 s8 i u => ∃ (k : Nat) (lo hi : Int) (fd : Bool), k ≤ 3 ∧ s6 = .int .i64 lo ∧ s7 = .int .i64 hi ∧ s8 = .bool fd ∧ i = .int .i64 (k : Int) ∧ Hid (spr (fun i => clq (X i)) E k = (fd, lo, hi)) ∧ Hid (BsK B X E X' E' g w u)) (fun s6 s7 s8 i _ => 3 - (intOf i).toNat)
  case atStart => exact ⟨0, 0, 0, false, by omega, rfl, rfl, rfl, rfl, Lib.hid rfl, K1⟩
  case round =>
    clear K1
    obtain ⟨k, lo, hi, fd, hk, rfl, rfl, rfl, rfl, hS, K⟩ := hrel
    by_cases hlt : k < 3
    · have j1 : (k : Int) < 3 := by omega
      have j2 : IntKind.i64.wrap ((k : Int) + 1) = (k : Int) + 1 := by rw [IntKind.wrap_i64]; omega
      obtain ⟨x1, x2⟩ := hX.out k hlt
      have kb := (K.out.b.one k (b3_at hlt)).1
      have kc1 := (K.out.c.one (k * 2) (pr6_v hlt)).1
      have kc2 := (K.out.c.one (k * 2 + 1) (pr6_e hlt)).1
      have kx1 := (K.out.x.one (k * 2) (pr6_v hlt)).1
      have kx2 := (K.out.x.one (k * 2 + 1) (pr6_e hlt)).1
      have SH := Lib.hid (fun e => show spr (fun i => clq (X i)) E (k + 1) = (true, (if fd then min lo (clq (X k)) else clq (X k)), (if fd then max hi (clq (X k)) else clq (X k))) from spr_hit hS.out e)
      have SM := Lib.hid (fun e => (spr_miss e).trans hS.out)
      have CL := Lib.hid (fun u => r16clip_any (X k) u)
      clear hS hX SP
      generalize clq (X k) = v at SH CL
      rw [x1] at kc1
      rw [x2] at kc2
      clear x1 x2
      generalize X k = x at kc1 kx1 CL
      generalize E k = e at kc2 kx2 SH SM
      generalize B k = bk at kb kc1 kc2
      go_upto_region 7 with (fail)
      go_cut [44] from 16 to 64 (fun s u => s = .bool false ∧ Hid (BsK B X E X' E' g w u) ∧ u.cell? ⟨w.heap.size, k * 2, none⟩ = some (.int .i64 x) ∧ u.cell? ⟨w.heap.size, k * 2 + 1, none⟩ = some (.int .i64 e))
      case first =>
        cases bk
        · simp only [if_false, Bool.false_eq_true] at kc1 kc2
          refine region_moves (fun u => u.cell? ⟨w.heap.size + 1, k, none⟩ = some (.bool false) ∧ u.cell? ⟨g, k * 2, none⟩ = some (.int .i64 x) ∧ u.cell? ⟨g, k * 2 + 1, none⟩ = some (.int .i64 e) ∧ u.cell? ⟨w.heap.size, k * 2, none⟩ = some (.int .i64 x) ∧ u.cell? ⟨w.heap.size, k * 2 + 1, none⟩ = some (.int .i64 e)) [] [(.free, 0), (.free, 1), (.take, 2), (.free, 3), (.free, 4), (.free, 5), (.take, 6), (.free, 7), (.free, 8), (.free, 9), (.free, 10), (.free, 11), (.free, 12), (.take, 13), (.free, 14), (.free, 15), (.free, 16), (.free, 17), (.take, 18), (.free, 19), (.free, 20), (.take, 21), (.free, 22), (.free, 23), (.free, 24)] _ (by kernel_rfl) (by kernel_rfl) (by kernel_rfl) (by kernel_rfl) (by decide) rfl (fun _ _ _ _ _ h => h) ?_
          simp only [List.filterMap_cons, List.filterMap_nil, List.getElem?_toArray, List.getElem?_cons_zero, List.getElem?_cons_succ, Option.map_some]
          iterate 2
            first
              | (refine mv_free ?_ (Or.inl ⟨by rfl, ?_⟩) (⟨kb, kc1, kc2, kx1, kx2⟩) ?_
                 rotate_left 1
                 · intro u
                   go_simp
                   try with_reducible rfl
                 simp only [Act.put, List.setIfInBounds_toArray, List.set_cons_zero, List.set_cons_succ])
              | (refine mv_free _ (Or.inr ⟨by rfl, rfl⟩) (⟨kb, kc1, kc2, kx1, kx2⟩) ?_
                 simp only [Act.put, List.setIfInBounds_toArray, List.set_cons_zero, List.set_cons_succ])
          iterate 1
            first
              | (refine mv_take ?_ (Or.inl ⟨by rfl, ?_⟩) (⟨kb, kc1, kc2, kx1, kx2⟩) ?_
                 rotate_left 1
                 · intro u hu
                   (try dsimp only at hu)
                   go_simp
                   try with_reducible rfl
                 simp only [Act.put, List.setIfInBounds_toArray, List.set_cons_zero, List.set_cons_succ])
              | (refine mv_take _ (Or.inr ⟨by rfl, rfl⟩) (⟨kb, kc1, kc2, kx1, kx2⟩) ?_
                 simp only [Act.put, List.setIfInBounds_toArray, List.set_cons_zero, List.set_cons_succ])
          iterate 3
            first
              | (refine mv_free ?_ (Or.inl ⟨by rfl, ?_⟩) (⟨kb, kc1, kc2, kx1, kx2⟩) ?_
                 rotate_left 1
                 · intro u
                   go_simp
                   try with_reducible rfl
                 simp only [Act.put, List.setIfInBounds_toArray, List.set_cons_zero, List.set_cons_succ])
              | (refine mv_free _ (Or.inr ⟨by rfl, rfl⟩) (⟨kb, kc1, kc2, kx1, kx2⟩) ?_
                 simp only [Act.put, List.setIfInBounds_toArray, List.set_cons_zero, List.set_cons_succ])
          iterate 1
            first
              | (refine mv_take ?_ (Or.inl ⟨by rfl, ?_⟩) (⟨kb, kc1, kc2, kx1, kx2⟩) ?_
                 rotate_left 1
                 · intro u hu
                   (try dsimp only at hu)
                   go_simp
                   try with_reducible rfl
                 simp only [Act.put, List.setIfInBounds_toArray, List.set_cons_zero, List.set_cons_succ])
              | (refine mv_take _ (Or.inr ⟨by rfl, rfl⟩) (⟨kb, kc1, kc2, kx1, kx2⟩) ?_
                 simp only [Act.put, List.setIfInBounds_toArray, List.set_cons_zero, List.set_cons_succ])
          iterate 6
            first
              | (refine mv_free ?_ (Or.inl ⟨by rfl, ?_⟩) (⟨kb, kc1, kc2, kx1, kx2⟩) ?_
                 rotate_left 1
                 · intro u
                   go_simp
                   try with_reducible rfl
                 simp only [Act.put, List.setIfInBounds_toArray, List.set_cons_zero, List.set_cons_succ])
              | (refine mv_free _ (Or.inr ⟨by rfl, rfl⟩) (⟨kb, kc1, kc2, kx1, kx2⟩) ?_
                 simp only [Act.put, List.setIfInBounds_toArray, List.set_cons_zero, List.set_cons_succ])
          iterate 1
            first
              | (refine mv_take ?_ (Or.inl ⟨by rfl, ?_⟩) (⟨kb, kc1, kc2, kx1, kx2⟩) ?_
                 rotate_left 1
                 · intro u hu
                   (try dsimp only at hu)
                   go_simp
                   try with_reducible rfl
                 simp only [Act.put, List.setIfInBounds_toArray, List.set_cons_zero, List.set_cons_succ])
              | (refine mv_take _ (Or.inr ⟨by rfl, rfl⟩) (⟨kb, kc1, kc2, kx1, kx2⟩) ?_
                 simp only [Act.put, List.setIfInBounds_toArray, List.set_cons_zero, List.set_cons_succ])
          iterate 4
            first
              | (refine mv_free ?_ (Or.inl ⟨by rfl, ?_⟩) (⟨kb, kc1, kc2, kx1, kx2⟩) ?_
                 rotate_left 1
                 · intro u
                   go_simp
                   try with_reducible rfl
                 simp only [Act.put, List.setIfInBounds_toArray, List.set_cons_zero, List.set_cons_succ])
              | (refine mv_free _ (Or.inr ⟨by rfl, rfl⟩) (⟨kb, kc1, kc2, kx1, kx2⟩) ?_
                 simp only [Act.put, List.setIfInBounds_toArray, List.set_cons_zero, List.set_cons_succ])
          iterate 1
            first
              | (refine mv_take ?_ (Or.inl ⟨by rfl, ?_⟩) (⟨kb, kc1, kc2, kx1, kx2⟩) ?_
                 rotate_left 1
                 · intro u hu
                   (try dsimp only at hu)
                   go_simp
                   try with_reducible rfl
                 simp only [Act.put, List.setIfInBounds_toArray, List.set_cons_zero, List.set_cons_succ])
              | (refine mv_take _ (Or.inr ⟨by rfl, rfl⟩) (⟨kb, kc1, kc2, kx1, kx2⟩) ?_
                 simp only [Act.put, List.setIfInBounds_toArray, List.set_cons_zero, List.set_cons_succ])
          iterate 2
            first
              | (refine mv_free ?_ (Or.inl ⟨by rfl, ?_⟩) (⟨kb, kc1, kc2, kx1, kx2⟩) ?_
                 rotate_left 1
                 · intro u
                   go_simp
                   try with_reducible rfl
                 simp only [Act.put, List.setIfInBounds_toArray, List.set_cons_zero, List.set_cons_succ])
              | (refine mv_free _ (Or.inr ⟨by rfl, rfl⟩) (⟨kb, kc1, kc2, kx1, kx2⟩) ?_
                 simp only [Act.put, List.setIfInBounds_toArray, List.set_cons_zero, List.set_cons_succ])
          iterate 1
            first
              | (refine mv_take ?_ (Or.inl ⟨by rfl, ?_⟩) (⟨kb, kc1, kc2, kx1, kx2⟩) ?_
                 rotate_left 1
                 · intro u hu
                   (try dsimp only at hu)
                   go_simp
                   try with_reducible rfl
                 simp only [Act.put, List.setIfInBounds_toArray, List.set_cons_zero, List.set_cons_succ])
              | (refine mv_take _ (Or.inr ⟨by rfl, rfl⟩) (⟨kb, kc1, kc2, kx1, kx2⟩) ?_
                 simp only [Act.put, List.setIfInBounds_toArray, List.set_cons_zero, List.set_cons_succ])
          iterate 3
            first
              | (refine mv_free ?_ (Or.inl ⟨by rfl, ?_⟩) (⟨kb, kc1, kc2, kx1, kx2⟩) ?_
                 rotate_left 1
                 · intro u
                   go_simp
                   try with_reducible rfl
                 simp only [Act.put, List.setIfInBounds_toArray, List.set_cons_zero, List.set_cons_succ])
              | (refine mv_free _ (Or.inr ⟨by rfl, rfl⟩) (⟨kb, kc1, kc2, kx1, kx2⟩) ?_
                 simp only [Act.put, List.setIfInBounds_toArray, List.set_cons_zero, List.set_cons_succ])
          refine mv_done ?_
          go_wp2_with fail
          all_goals go_meet
          all_goals exact ⟨rfl, Lib.hid (K.out.next (Below.refl _ _).drew), kx1, kx2⟩
        · simp only [if_true] at kc1 kc2
          refine region_moves (fun u => u.cell? ⟨w.heap.size + 1, k, none⟩ = some (.bool true) ∧ u.cell? ⟨g, k * 2, none⟩ = some (.int .i64 0) ∧ u.cell? ⟨g, k * 2 + 1, none⟩ = some (.int .i64 10) ∧ u.cell? ⟨w.heap.size, k * 2, none⟩ = some (.int .i64 x) ∧ u.cell? ⟨w.heap.size, k * 2 + 1, none⟩ = some (.int .i64 e)) [] [(.free, 0), (.free, 1), (.take, 2), (.free, 3), (.free, 4), (.free, 5), (.take, 6), (.free, 7), (.free, 8), (.free, 9), (.free, 10), (.free, 11), (.free, 12), (.take, 13), (.free, 14), (.free, 15), (.free, 16), (.free, 17), (.take, 18), (.free, 19), (.free, 20), (.take, 21), (.free, 22), (.free, 23), (.free, 24)] _ (by kernel_rfl) (by kernel_rfl) (by kernel_rfl) (by kernel_rfl) (by decide) rfl (fun _ _ _ _ _ h => h) ?_
          simp only [List.filterMap_cons, List.filterMap_nil, List.getElem?_toArray, List.getElem?_cons_zero, List.getElem?_cons_succ, Option.map_some]
          iterate 2
            first
              | (refine mv_free ?_ (Or.inl ⟨by rfl, ?_⟩) (⟨kb, kc1, kc2, kx1, kx2⟩) ?_
                 rotate_left 1
                 · intro u
                   go_simp
                   try with_reducible rfl
                 simp only [Act.put, List.setIfInBounds_toArray, List.set_cons_zero, List.set_cons_succ])
              | (refine mv_free _ (Or.inr ⟨by rfl, rfl⟩) (⟨kb, kc1, kc2, kx1, kx2⟩) ?_
                 simp only [Act.put, List.setIfInBounds_toArray, List.set_cons_zero, List.set_cons_succ])
          iterate 1
            first
              | (refine mv_take ?_ (Or.inl ⟨by rfl, ?_⟩) (⟨kb, kc1, kc2, kx1, kx2⟩) ?_
                 rotate_left 1
                 · intro u hu
                   (try dsimp only at hu)
                   go_simp
                   try with_reducible rfl
                 simp only [Act.put, List.setIfInBounds_toArray, List.set_cons_zero, List.set_cons_succ])
              | (refine mv_take _ (Or.inr ⟨by rfl, rfl⟩) (⟨kb, kc1, kc2, kx1, kx2⟩) ?_
                 simp only [Act.put, List.setIfInBounds_toArray, List.set_cons_zero, List.set_cons_succ])
          iterate 3
            first
              | (refine mv_free ?_ (Or.inl ⟨by rfl, ?_⟩) (⟨kb, kc1, kc2, kx1, kx2⟩) ?_
                 rotate_left 1
                 · intro u
                   go_simp
                   try with_reducible rfl
                 simp only [Act.put, List.setIfInBounds_toArray, List.set_cons_zero, List.set_cons_succ])
              | (refine mv_free _ (Or.inr ⟨by rfl, rfl⟩) (⟨kb, kc1, kc2, kx1, kx2⟩) ?_
                 simp only [Act.put, List.setIfInBounds_toArray, List.set_cons_zero, List.set_cons_succ])
          iterate 1
            first
              | (refine mv_take ?_ (Or.inl ⟨by rfl, ?_⟩) (⟨kb, kc1, kc2, kx1, kx2⟩) ?_
                 rotate_left 1
                 · intro u hu
                   (try dsimp only at hu)
                   go_simp
                   try with_reducible rfl
                 simp only [Act.put, List.setIfInBounds_toArray, List.set_cons_zero, List.set_cons_succ])
              | (refine mv_take _ (Or.inr ⟨by rfl, rfl⟩) (⟨kb, kc1, kc2, kx1, kx2⟩) ?_
                 simp only [Act.put, List.setIfInBounds_toArray, List.set_cons_zero, List.set_cons_succ])
          iterate 6
            first
              | (refine mv_free ?_ (Or.inl ⟨by rfl, ?_⟩) (⟨kb, kc1, kc2, kx1, kx2⟩) ?_
                 rotate_left 1
                 · intro u
                   go_simp
                   try with_reducible rfl
                 simp only [Act.put, List.setIfInBounds_toArray, List.set_cons_zero, List.set_cons_succ])
              | (refine mv_free _ (Or.inr ⟨by rfl, rfl⟩) (⟨kb, kc1, kc2, kx1, kx2⟩) ?_
                 simp only [Act.put, List.setIfInBounds_toArray, List.set_cons_zero, List.set_cons_succ])
          iterate 1
            first
              | (refine mv_take ?_ (Or.inl ⟨by rfl, ?_⟩) (⟨kb, kc1, kc2, kx1, kx2⟩) ?_
                 rotate_left 1
                 · intro u hu
                   (try dsimp only at hu)
                   go_simp
                   try with_reducible rfl
                 simp only [Act.put, List.setIfInBounds_toArray, List.set_cons_zero, List.set_cons_succ])
              | (refine mv_take _ (Or.inr ⟨by rfl, rfl⟩) (⟨kb, kc1, kc2, kx1, kx2⟩) ?_
                 simp only [Act.put, List.setIfInBounds_toArray, List.set_cons_zero, List.set_cons_succ])
          iterate 4
            first
              | (refine mv_free ?_ (Or.inl ⟨by rfl, ?_⟩) (⟨kb, kc1, kc2, kx1, kx2⟩) ?_
                 rotate_left 1
                 · intro u
                   go_simp
                   try with_reducible rfl
                 simp only [Act.put, List.setIfInBounds_toArray, List.set_cons_zero, List.set_cons_succ])
              | (refine mv_free _ (Or.inr ⟨by rfl, rfl⟩) (⟨kb, kc1, kc2, kx1, kx2⟩) ?_
                 simp only [Act.put, List.setIfInBounds_toArray, List.set_cons_zero, List.set_cons_succ])
          iterate 1
            first
              | (refine mv_take ?_ (Or.inl ⟨by rfl, ?_⟩) (⟨kb, kc1, kc2, kx1, kx2⟩) ?_
                 rotate_left 1
                 · intro u hu
                   (try dsimp only at hu)
                   go_simp
                   try with_reducible rfl
                 simp only [Act.put, List.setIfInBounds_toArray, List.set_cons_zero, List.set_cons_succ])
              | (refine mv_take _ (Or.inr ⟨by rfl, rfl⟩) (⟨kb, kc1, kc2, kx1, kx2⟩) ?_
                 simp only [Act.put, List.setIfInBounds_toArray, List.set_cons_zero, List.set_cons_succ])
          iterate 2
            first
              | (refine mv_free ?_ (Or.inl ⟨by rfl, ?_⟩) (⟨kb, kc1, kc2, kx1, kx2⟩) ?_
                 rotate_left 1
                 · intro u
                   go_simp
                   try with_reducible rfl
                 simp only [Act.put, List.setIfInBounds_toArray, List.set_cons_zero, List.set_cons_succ])
              | (refine mv_free _ (Or.inr ⟨by rfl, rfl⟩) (⟨kb, kc1, kc2, kx1, kx2⟩) ?_
                 simp only [Act.put, List.setIfInBounds_toArray, List.set_cons_zero, List.set_cons_succ])
          iterate 1
            first
              | (refine mv_take ?_ (Or.inl ⟨by rfl, ?_⟩) (⟨kb, kc1, kc2, kx1, kx2⟩) ?_
                 rotate_left 1
                 · intro u hu
                   (try dsimp only at hu)
                   go_simp
                   try with_reducible rfl
                 simp only [Act.put, List.setIfInBounds_toArray, List.set_cons_zero, List.set_cons_succ])
              | (refine mv_take _ (Or.inr ⟨by rfl, rfl⟩) (⟨kb, kc1, kc2, kx1, kx2⟩) ?_
                 simp only [Act.put, List.setIfInBounds_toArray, List.set_cons_zero, List.set_cons_succ])
          iterate 3
            first
              | (refine mv_free ?_ (Or.inl ⟨by rfl, ?_⟩) (⟨kb, kc1, kc2, kx1, kx2⟩) ?_
                 rotate_left 1
                 · intro u
                   go_simp
                   try with_reducible rfl
                 simp only [Act.put, List.setIfInBounds_toArray, List.set_cons_zero, List.set_cons_succ])
              | (refine mv_free _ (Or.inr ⟨by rfl, rfl⟩) (⟨kb, kc1, kc2, kx1, kx2⟩) ?_
                 simp only [Act.put, List.setIfInBounds_toArray, List.set_cons_zero, List.set_cons_succ])
          refine mv_done ?_
          go_wp2_with fail
          all_goals go_meet
          all_goals exact ⟨rfl, Lib.hid (K.out.next (Below.refl _ _).drew), kx1, kx2⟩
      case rest =>
        clear kb kc1 kc2 kx1 kx2 K
        obtain ⟨rfl, K2, kx1, kx2⟩ := hcut
        by_cases he : e = 0
        · have sh := SH.out he
          clear SH SM
          subst he
          cases fd
          · simp only [if_false, Bool.false_eq_true] at sh
            replace sh := Lib.hid sh
            go_wp2_with ((go_at_call 19; (with_reducible refine (CL.out _).mono ?_); rintro e w' ⟨rfl, rfl⟩))
            all_goals
              go_roundw
              case rel => exact ⟨k + 1, v, v, true, by omega, by first | rfl | (congr 1; omega) | (simp; done), by first | rfl | (congr 1; omega) | (simp; done), rfl, by first | rfl | go_num, sh, K2⟩
              case measure => simp [intOf] <;> omega
          · simp only [if_true] at sh
            obtain ⟨m4, q4⟩ : ∃ m, min lo v = m := ⟨_, rfl⟩
            obtain ⟨m5, q5⟩ : ∃ m, max hi v = m := ⟨_, rfl⟩
            rw [q4, q5] at sh
            replace sh := Lib.hid sh
            go_wp2_with ((go_at_call 19; (with_reducible refine (CL.out _).mono ?_); rintro e w' ⟨rfl, rfl⟩))
            all_goals
              go_roundw
              case rel => exact ⟨k + 1, m4, m5, true, by omega, by first | rfl | (congr 1; omega) | (simp; done), by first | rfl | (congr 1; omega) | (simp; done), rfl, by first | rfl | go_num, sh, K2⟩
              case measure => simp [intOf] <;> omega
        · have sm := Lib.hid (SM.out he)
          have he2 : (e != 0) = true := by simp [he]
          clear SH SM
          go_wp2
          go_roundw
          case rel => exact ⟨k + 1, lo, hi, fd, by omega, rfl, rfl, rfl, by first | rfl | go_num, sm, K2⟩
          case measure => simp [intOf] <;> omega
    · obtain rfl : k = 3 := by omega
      have e := hS.out.symm.trans eS.out
      injection e with e1 e
      injection e with e2 e3
      subst e1 e2 e3
      have hx := K.out.x
      simp only [pr6] at hx
      obtain ⟨c0, f0⟩ := hx.one 0 rfl
      obtain ⟨c1, f1⟩ := hx.one 1 rfl
      obtain ⟨c2, f2⟩ := hx.one 2 rfl
      obtain ⟨c3, f3⟩ := hx.one 3 rfl
      obtain ⟨c4, f4⟩ := hx.one 4 rfl
      obtain ⟨c5, f5⟩ := hx.one 5 rfl
      clear hx
      have z1 : IntKind.i64.wrap (hi - lo) = hi - lo := IntWalk.i64_in _ ⟨by omega, by omega⟩
      go_wp2_with (first | (go_at_call 20; refine (SP.out _).mono ?_; rintro e w1 ⟨rfl, hb2⟩) | (go_at_call 21; refine (LV.out _).mono ?_; rintro e w1 ⟨rfl, hb3⟩))
      go_ret
      exact ⟨rfl, ((K.out.next hb2).next hb3).bel⟩
end Go.Proofs.Ytffhhdjcodapjaa
