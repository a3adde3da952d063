/- The law HullSpans, two of its ten cases; walked. -/
import Derived.Test.YtaijkngdelolgaaHull3
namespace Go.Proofs.Ytaijkngdelolgaa
open Go.ChangeShapes Go.WideShapes Go.ChangeAt Go.RowKit
set_option linter.unusedVariables false
set_option linter.unusedSimpArgs false
set_option maxRecDepth 100000 in
set_option maxHeartbeats 8000000 in
theorem hs_01x1 (a : Option Addr) (cap : Nat) (l : List Int) (A B : Nat → Int) (v : Int) (w : World) (hr : RowIs .i64 w a l) (hl : l.length ≤ maxLen) (h : l.length ≤ 200) (hA : A 1 < A 0) (hB : B 0 ≤ B 1) (hV : A 0 ≤ v)  : Calls Try.prog 8 #[.slice a l.length cap, .agg #[.int .i64 (A 0), .int .i64 (A 1), .int .i64 (B 0), .int .i64 (B 1)], .int .i64 v] w fun e w' => e = .returned (.bool true) ∧ Below w.heap.size w w' := by
  obtain ⟨V, eV, hb0, hX, hz⟩ : ∃ V, V = w.alloc (.cells #[.int .i64 (A 0), .int .i64 (A 1), .int .i64 (B 0), .int .i64 (B 1)] 62) ∧ Below w.heap.size w V ∧ Held w.heap.size [.int .i64 (A 0), .int .i64 (A 1), .int .i64 (B 0), .int .i64 (B 1)] V ∧ V.heap.size = w.heap.size + 1 := ⟨_, rfl, (by repeat (first | exact Below.refl _ _ | assumption | apply Below.drew | apply below_drewN | (refine Below.alloc ?_ (by first | exact Nat.le_refl _ | omega | (simp <;> omega)) _) | (refine Below.setCell ?_ (by first | exact Nat.le_refl _ | omega | (simp <;> omega)) _))), Held.new w [.int .i64 (A 0), .int .i64 (A 1), .int .i64 (B 0), .int .i64 (B 1)] _, by simp⟩
  have LV := Lib.hid (fun u => lives35 u)
  have HR := Lib.hid (fun u => hright_any (A 0) (A 1) u)
  have LR := Lib.hid (fun u => lright_any (A 0) (A 1) u)
  have LRB := Lib.hid (fun u => lright_any (B 0) (B 1) u)
  have HS := Lib.hid (fun u => has_any (A 0) (A 1) v u)
  have JN := fun u => join_any (A 0) (A 1) (B 0) (B 1) u
  have MT := fun u => meet_any (A 0) (A 1) (B 0) (B 1) u
  have OF := Lib.hid (fun u (k : Below w.heap.size w u) => of_any a cap l u (hr.below k) hl)
  have hL : ¬ (200 : Int) < (l.length : Int) := by omega
  rw [show joinL (A 0) (A 1) (B 0) (B 1) = B 0 from by unfold joinL; omega, show joinH (A 0) (A 1) (B 0) (B 1) = B 1 from by unfold joinH; omega] at JN
  have hM2 : (if B 1 < A 1 then B 1 else A 1) < (if A 0 < B 0 then B 0 else A 0) := by omega
  rw [show meetL (A 0) (A 1) (B 0) (B 1) = 0 from by unfold meetL; rw [if_pos hM2], show meetH (A 0) (A 1) (B 0) (B 1) = 0 from by unfold meetH; rw [if_pos hM2], show meetB (A 0) (A 1) (B 0) (B 1) = false from by unfold meetB; exact decide_eq_false (by omega)] at MT
  clear hM2
  have eA : decide (A 0 ≤ A 1) = false := by simp; omega
  rw [eA] at HR LR
  have eB : decide (B 0 ≤ B 1) = true := by simp; omega
  rw [eB] at LRB
  have eV1 : decide (A 0 ≤ v) = true := by simp; omega
  have eV2 : decide (A 0 ≤ v ∧ v ≤ A 1) = decide (v ≤ A 1) := by simp; omega
  rw [eV2] at HS
  clear eV2
  generalize ehv : decide (v ≤ A 1) = hv at *
  have eO : decide ((0 : Int) < (l.length : Int)) = ofB l := by unfold ofB; simp
  have eO2 : decide (0 < l.length) = ofB l := rfl
  clear hA hB hV
  replace JN := Lib.hid JN
  replace MT := Lib.hid MT
  replace hX := Lib.hid hX
  replace hb0 := Lib.hid hb0
  replace hr := Lib.hid hr
  go_enter Try.func8, Try.ntmps8
  go_upto_region 1 with (fail)
  rw [← eV]
  clear eV
  go_upto_region 4 with (fail)
  obtain ⟨V1, e1⟩ : ∃ z, z = V.alloc (.cells #[.int .i64 0, .int .i64 0] 61) := ⟨_, rfl⟩
  have KW : Held V.heap.size [.int .i64 0, .int .i64 0] V1 := by rw [e1]; exact Held.new V _ _
  have KX : Held w.heap.size [.int .i64 (A 0), .int .i64 (A 1), .int .i64 (B 0), .int .i64 (B 1)] V1 := by rw [e1]; exact hX.out.alloc _
  have BB : Below w.heap.size w V1 := by rw [e1]; exact hb0.out.alloc (by omega) _
  rw [← e1]
  clear e1
  rw [hz] at KW
  obtain ⟨q, eq⟩ : ∃ z, z = w.heap.size + 1 := ⟨_, rfl⟩
  rw [← eq] at KW ⊢
  clear hX hb0 hz
  have hq := Lib.hid eq
  clear eq
  skip
  go_wp2_with fail
  go_loopw [8] (fun i v => ∃ k : Nat, k ≤ l.length ∧ i = .int .i64 (k : Int) ∧ Held q [.int .i64 (lmin (l.take k)), .int .i64 (lmax (l.take k))] v ∧ Held w.heap.size [.int .i64 (A 0), .int .i64 (A 1), .int .i64 (B 0), .int .i64 (B 1)] v ∧ Below w.heap.size w v) (fun i _ => l.length - (intOf i).toNat)
  case atStart => exact ⟨0, by omega, rfl, KW, KX, BB⟩
  case round =>
    clear KW KX BB
    obtain ⟨k, hk, rfl, KW, KX, BB⟩ := hrel
    by_cases hlt : k < l.length
    · obtain ⟨b, off, ea, hbb, hc⟩ := hr.out.at hlt
      subst ea
      have c0 : wr.cell? ⟨b, off + k, none⟩ = some (.int .i64 (l.getD k 0)) := (BB.cell (p := ⟨b, off + k, none⟩) hbb).trans hc
      have i0 : 0 ≤ (k : Int) := by omega
      have i1 : (k : Int) < (l.length : Int) := by omega
      have i2 : IntKind.i64.wrap ((k : Int) + 1) = (k : Int) + 1 := by rw [IntKind.wrap_i64]; omega
      have hbq : b ≠ q := by have := hq.out; have : b < w.heap.size := hbb; omega
      have hcq : ∀ (u : World) (j : Nat) (y : Value), (u.setCell ⟨q, j, none⟩ y).cell? ⟨b, off + k, none⟩ = u.cell? ⟨b, off + k, none⟩ := fun u j y => World.cell?_setCell_other u ⟨q, j, none⟩ ⟨b, off + k, none⟩ y (fun he => hbq (by injection he with h1 _ _; exact h1.symm))
      clear hc hbb
      rcases Nat.eq_zero_or_pos k with hk0 | hk0
      · subst hk0
        have kk : ((0 : Nat) : Int) = 0 := rfl
        have p0 : (0 : Int) < (l.length : Int) := by omega
        replace c0 : wr.cell? ⟨b, off, none⟩ = some (.int .i64 (l.getD 0 0)) := c0
        clear i0 i1 i2
        have i2 : IntKind.i64.wrap (0 + 1) = 1 := by decide
        obtain ⟨x1, x2⟩ := hs_one hlt
        rw [show l.take 0 = [] from rfl] at KW
        replace KW : Held q [.int .i64 0, .int .i64 0] wr := KW
        generalize l.getD 0 0 = x at c0 x1 x2
        replace x1 := Lib.hid x1
        replace x2 := Lib.hid x2
        obtain ⟨z0, z1, g0, g1⟩ : wr.cell? ⟨q, 0, none⟩ = some (.int .i64 0) ∧ wr.cell? ⟨q, 1, none⟩ = some (.int .i64 0) ∧ wr.frozen? ⟨q, 0, none⟩ = false ∧ wr.frozen? ⟨q, 1, none⟩ = false := ⟨KW.c 0 _ rfl, KW.c 1 _ rfl, KW.f 0 (by simp), KW.f 1 (by simp)⟩
        go_wp2_with fail
        refine region_still [(7, [(6, 7), (0, 7), (1, 7), (2, 7), (3, 7), (4, 7), (5, 7)])] [(.free, 0), (.free, 1), (.take, 2), (.free, 3), (.free, 4), (.take, 5), (.free, 6), (.late, 7)] _ (by kernel_rfl) (by kernel_rfl) (by kernel_rfl) (by kernel_rfl) (by decide) rfl (fun _ _ _ _ _ h => h) ?_
        simp only [List.filterMap_cons, List.filterMap_nil, List.getElem?_toArray, List.getElem?_cons_zero, List.getElem?_cons_succ, Option.map_some]
        iterate 2
          first
            | (refine mv_free ?_ (Or.inl ⟨by rfl, ?_⟩) (rfl) ?_
               rotate_left 1
               · intro u
                 go_simp
                 try simp only [d1]
                 try simp only [d2]
                 try simp only [d3]
                 try with_reducible rfl
               simp only [Act.put, List.setIfInBounds_toArray, List.set_cons_zero, List.set_cons_succ])
            | (refine mv_free _ (Or.inr ⟨by rfl, rfl⟩) (rfl) ?_
               simp only [Act.put, List.setIfInBounds_toArray, List.set_cons_zero, List.set_cons_succ])
        iterate 1
          first
            | (refine mv_take ?_ (Or.inl ⟨by rfl, ?_⟩) (rfl) ?_
               rotate_left 1
               · intro u hu
                 (try dsimp only at hu)
                 go_simp
                 try with_reducible rfl
               simp only [Act.put, List.setIfInBounds_toArray, List.set_cons_zero, List.set_cons_succ])
            | (refine mv_take _ (Or.inr ⟨by rfl, rfl⟩) (rfl) ?_
               simp only [Act.put, List.setIfInBounds_toArray, List.set_cons_zero, List.set_cons_succ])
        iterate 2
          first
            | (refine mv_free ?_ (Or.inl ⟨by rfl, ?_⟩) (rfl) ?_
               rotate_left 1
               · intro u
                 go_simp
                 try simp only [d1]
                 try simp only [d2]
                 try simp only [d3]
                 try with_reducible rfl
               simp only [Act.put, List.setIfInBounds_toArray, List.set_cons_zero, List.set_cons_succ])
            | (refine mv_free _ (Or.inr ⟨by rfl, rfl⟩) (rfl) ?_
               simp only [Act.put, List.setIfInBounds_toArray, List.set_cons_zero, List.set_cons_succ])
        iterate 1
          first
            | (refine mv_take ?_ (Or.inl ⟨by rfl, ?_⟩) (rfl) ?_
               rotate_left 1
               · intro u hu
                 (try dsimp only at hu)
                 go_simp
                 try with_reducible rfl
               simp only [Act.put, List.setIfInBounds_toArray, List.set_cons_zero, List.set_cons_succ])
            | (refine mv_take _ (Or.inr ⟨by rfl, rfl⟩) (rfl) ?_
               simp only [Act.put, List.setIfInBounds_toArray, List.set_cons_zero, List.set_cons_succ])
        iterate 1
          first
            | (refine mv_free ?_ (Or.inl ⟨by rfl, ?_⟩) (rfl) ?_
               rotate_left 1
               · intro u
                 go_simp
                 try simp only [d1]
                 try simp only [d2]
                 try simp only [d3]
                 try with_reducible rfl
               simp only [Act.put, List.setIfInBounds_toArray, List.set_cons_zero, List.set_cons_succ])
            | (refine mv_free _ (Or.inr ⟨by rfl, rfl⟩) (rfl) ?_
               simp only [Act.put, List.setIfInBounds_toArray, List.set_cons_zero, List.set_cons_succ])
        refine mv_late (fun K hK => ?_)
        go_simp
        obtain ⟨wa, ewa⟩ : ∃ z, z = ((wr.setCell ⟨q, 0, none⟩ (.int .i64 x)).setCell ⟨q, 1, none⟩ (.int .i64 x)).drew := ⟨_, rfl⟩
        replace KW : Held q [.int .i64 (x), .int .i64 (x)] wa := by rw [ewa]; exact ((KW.set 0 (.int .i64 x) (by simp)).set 1 (.int .i64 x) (by simp)).drew
        replace KX : Held w.heap.size [.int .i64 (A 0), .int .i64 (A 1), .int .i64 (B 0), .int .i64 (B 1)] wa := by rw [ewa]; exact ((KX.only (Only.setCell (p := ⟨q, 0, none⟩) (Only.refl q _) (.int .i64 x)) (by have := hq.out; show w.heap.size ≠ q; omega)).only (Only.setCell (p := ⟨q, 1, none⟩) (Only.refl q _) (.int .i64 x)) (by have := hq.out; show w.heap.size ≠ q; omega)).drew
        replace BB : Below w.heap.size w wa := by rw [ewa]; exact ((BB.setCell (p := ⟨q, 0, none⟩) (by have := hq.out; show w.heap.size ≤ q; omega) (.int .i64 x)).setCell (p := ⟨q, 1, none⟩) (by have := hq.out; show w.heap.size ≤ q; omega) (.int .i64 x)).drew
        replace c0 : wa.cell? ⟨b, off, none⟩ = some (.int .i64 x) := by rw [ewa]; exact ((hcq _ 1 _).trans ((hcq _ 0 _).trans c0))
        refine hK.out (fun _ => True) _ _ ?_
        clear hK K
        refine mv_done ?_
        rw [← ewa]
        clear ewa z0 z1 g0 g1
        obtain ⟨z0, z1, g0, g1⟩ : wa.cell? ⟨q, 0, none⟩ = some (.int .i64 x) ∧ wa.cell? ⟨q, 1, none⟩ = some (.int .i64 x) ∧ wa.frozen? ⟨q, 0, none⟩ = false ∧ wa.frozen? ⟨q, 1, none⟩ = false := ⟨KW.c 0 _ rfl, KW.c 1 _ rfl, KW.f 0 (by simp), KW.f 1 (by simp)⟩
        go_wp2_with fail
        refine region_still [(8, [(7, 8), (6, 8), (0, 8), (1, 8), (2, 8), (3, 8), (4, 8), (5, 8)])] [(.free, 0), (.take, 1), (.free, 2), (.free, 3), (.free, 4), (.take, 5), (.free, 6), (.free, 7), (.late, 8)] _ (by kernel_rfl) (by kernel_rfl) (by kernel_rfl) (by kernel_rfl) (by decide) rfl (fun _ _ _ _ _ h => h) ?_
        simp only [List.filterMap_cons, List.filterMap_nil, List.getElem?_toArray, List.getElem?_cons_zero, List.getElem?_cons_succ, Option.map_some]
        iterate 1
          first
            | (refine mv_free ?_ (Or.inl ⟨by rfl, ?_⟩) (rfl) ?_
               rotate_left 1
               · intro u
                 go_simp
                 try simp only [d1]
                 try simp only [d2]
                 try simp only [d3]
                 try with_reducible rfl
               simp only [Act.put, List.setIfInBounds_toArray, List.set_cons_zero, List.set_cons_succ])
            | (refine mv_free _ (Or.inr ⟨by rfl, rfl⟩) (rfl) ?_
               simp only [Act.put, List.setIfInBounds_toArray, List.set_cons_zero, List.set_cons_succ])
        iterate 1
          first
            | (refine mv_take ?_ (Or.inl ⟨by rfl, ?_⟩) (rfl) ?_
               rotate_left 1
               · intro u hu
                 (try dsimp only at hu)
                 go_simp
                 try with_reducible rfl
               simp only [Act.put, List.setIfInBounds_toArray, List.set_cons_zero, List.set_cons_succ])
            | (refine mv_take _ (Or.inr ⟨by rfl, rfl⟩) (rfl) ?_
               simp only [Act.put, List.setIfInBounds_toArray, List.set_cons_zero, List.set_cons_succ])
        iterate 3
          first
            | (refine mv_free ?_ (Or.inl ⟨by rfl, ?_⟩) (rfl) ?_
               rotate_left 1
               · intro u
                 go_simp
                 try simp only [d1]
                 try simp only [d2]
                 try simp only [d3]
                 try with_reducible rfl
               simp only [Act.put, List.setIfInBounds_toArray, List.set_cons_zero, List.set_cons_succ])
            | (refine mv_free _ (Or.inr ⟨by rfl, rfl⟩) (rfl) ?_
               simp only [Act.put, List.setIfInBounds_toArray, List.set_cons_zero, List.set_cons_succ])
        iterate 1
          first
            | (refine mv_take ?_ (Or.inl ⟨by rfl, ?_⟩) (rfl) ?_
               rotate_left 1
               · intro u hu
                 (try dsimp only at hu)
                 go_simp
                 try with_reducible rfl
               simp only [Act.put, List.setIfInBounds_toArray, List.set_cons_zero, List.set_cons_succ])
            | (refine mv_take _ (Or.inr ⟨by rfl, rfl⟩) (rfl) ?_
               simp only [Act.put, List.setIfInBounds_toArray, List.set_cons_zero, List.set_cons_succ])
        iterate 2
          first
            | (refine mv_free ?_ (Or.inl ⟨by rfl, ?_⟩) (rfl) ?_
               rotate_left 1
               · intro u
                 go_simp
                 try simp only [d1]
                 try simp only [d2]
                 try simp only [d3]
                 try with_reducible rfl
               simp only [Act.put, List.setIfInBounds_toArray, List.set_cons_zero, List.set_cons_succ])
            | (refine mv_free _ (Or.inr ⟨by rfl, rfl⟩) (rfl) ?_
               simp only [Act.put, List.setIfInBounds_toArray, List.set_cons_zero, List.set_cons_succ])
        refine mv_late (fun K hK => ?_)
        go_simp
        obtain ⟨wb, ewb⟩ : ∃ z, z = (wa.setCell ⟨q, 0, none⟩ (.int .i64 x)).drew := ⟨_, rfl⟩
        replace KW : Held q [.int .i64 (x), .int .i64 (x)] wb := by rw [ewb]; exact (KW.set 0 (.int .i64 x) (by simp)).drew
        replace KX : Held w.heap.size [.int .i64 (A 0), .int .i64 (A 1), .int .i64 (B 0), .int .i64 (B 1)] wb := by rw [ewb]; exact (KX.only (Only.setCell (p := ⟨q, 0, none⟩) (Only.refl q _) (.int .i64 x)) (by have := hq.out; show w.heap.size ≠ q; omega)).drew
        replace BB : Below w.heap.size w wb := by rw [ewb]; exact (BB.setCell (p := ⟨q, 0, none⟩) (by have := hq.out; show w.heap.size ≤ q; omega) (.int .i64 x)).drew
        replace c0 : wb.cell? ⟨b, off, none⟩ = some (.int .i64 x) := by rw [ewb]; exact ((hcq _ 0 _).trans c0)
        refine hK.out (fun _ => True) _ _ ?_
        clear hK K
        refine mv_done ?_
        rw [← ewb]
        clear ewb z0 z1 g0 g1
        obtain ⟨z0, z1, g0, g1⟩ : wb.cell? ⟨q, 0, none⟩ = some (.int .i64 x) ∧ wb.cell? ⟨q, 1, none⟩ = some (.int .i64 x) ∧ wb.frozen? ⟨q, 0, none⟩ = false ∧ wb.frozen? ⟨q, 1, none⟩ = false := ⟨KW.c 0 _ rfl, KW.c 1 _ rfl, KW.f 0 (by simp), KW.f 1 (by simp)⟩
        go_wp2_with fail
        refine region_still [(8, [(7, 8), (6, 8), (0, 8), (1, 8), (2, 8), (3, 8), (4, 8), (5, 8)])] [(.free, 0), (.take, 1), (.free, 2), (.free, 3), (.free, 4), (.take, 5), (.free, 6), (.free, 7), (.late, 8)] _ (by kernel_rfl) (by kernel_rfl) (by kernel_rfl) (by kernel_rfl) (by decide) rfl (fun _ _ _ _ _ h => h) ?_
        simp only [List.filterMap_cons, List.filterMap_nil, List.getElem?_toArray, List.getElem?_cons_zero, List.getElem?_cons_succ, Option.map_some]
        iterate 1
          first
            | (refine mv_free ?_ (Or.inl ⟨by rfl, ?_⟩) (rfl) ?_
               rotate_left 1
               · intro u
                 go_simp
                 try simp only [d1]
                 try simp only [d2]
                 try simp only [d3]
                 try with_reducible rfl
               simp only [Act.put, List.setIfInBounds_toArray, List.set_cons_zero, List.set_cons_succ])
            | (refine mv_free _ (Or.inr ⟨by rfl, rfl⟩) (rfl) ?_
               simp only [Act.put, List.setIfInBounds_toArray, List.set_cons_zero, List.set_cons_succ])
        iterate 1
          first
            | (refine mv_take ?_ (Or.inl ⟨by rfl, ?_⟩) (rfl) ?_
               rotate_left 1
               · intro u hu
                 (try dsimp only at hu)
                 go_simp
                 try with_reducible rfl
               simp only [Act.put, List.setIfInBounds_toArray, List.set_cons_zero, List.set_cons_succ])
            | (refine mv_take _ (Or.inr ⟨by rfl, rfl⟩) (rfl) ?_
               simp only [Act.put, List.setIfInBounds_toArray, List.set_cons_zero, List.set_cons_succ])
        iterate 3
          first
            | (refine mv_free ?_ (Or.inl ⟨by rfl, ?_⟩) (rfl) ?_
               rotate_left 1
               · intro u
                 go_simp
                 try simp only [d1]
                 try simp only [d2]
                 try simp only [d3]
                 try with_reducible rfl
               simp only [Act.put, List.setIfInBounds_toArray, List.set_cons_zero, List.set_cons_succ])
            | (refine mv_free _ (Or.inr ⟨by rfl, rfl⟩) (rfl) ?_
               simp only [Act.put, List.setIfInBounds_toArray, List.set_cons_zero, List.set_cons_succ])
        iterate 1
          first
            | (refine mv_take ?_ (Or.inl ⟨by rfl, ?_⟩) (rfl) ?_
               rotate_left 1
               · intro u hu
                 (try dsimp only at hu)
                 go_simp
                 try with_reducible rfl
               simp only [Act.put, List.setIfInBounds_toArray, List.set_cons_zero, List.set_cons_succ])
            | (refine mv_take _ (Or.inr ⟨by rfl, rfl⟩) (rfl) ?_
               simp only [Act.put, List.setIfInBounds_toArray, List.set_cons_zero, List.set_cons_succ])
        iterate 2
          first
            | (refine mv_free ?_ (Or.inl ⟨by rfl, ?_⟩) (rfl) ?_
               rotate_left 1
               · intro u
                 go_simp
                 try simp only [d1]
                 try simp only [d2]
                 try simp only [d3]
                 try with_reducible rfl
               simp only [Act.put, List.setIfInBounds_toArray, List.set_cons_zero, List.set_cons_succ])
            | (refine mv_free _ (Or.inr ⟨by rfl, rfl⟩) (rfl) ?_
               simp only [Act.put, List.setIfInBounds_toArray, List.set_cons_zero, List.set_cons_succ])
        refine mv_late (fun K hK => ?_)
        go_simp
        obtain ⟨wc, ewc⟩ : ∃ z, z = (wb.setCell ⟨q, 1, none⟩ (.int .i64 x)).drew := ⟨_, rfl⟩
        replace KW : Held q [.int .i64 (x), .int .i64 (x)] wc := by rw [ewc]; exact (KW.set 1 (.int .i64 x) (by simp)).drew
        replace KX : Held w.heap.size [.int .i64 (A 0), .int .i64 (A 1), .int .i64 (B 0), .int .i64 (B 1)] wc := by rw [ewc]; exact (KX.only (Only.setCell (p := ⟨q, 1, none⟩) (Only.refl q _) (.int .i64 x)) (by have := hq.out; show w.heap.size ≠ q; omega)).drew
        replace BB : Below w.heap.size w wc := by rw [ewc]; exact (BB.setCell (p := ⟨q, 1, none⟩) (by have := hq.out; show w.heap.size ≤ q; omega) (.int .i64 x)).drew
        replace c0 : wc.cell? ⟨b, off, none⟩ = some (.int .i64 x) := by rw [ewc]; exact ((hcq _ 1 _).trans c0)
        refine hK.out (fun _ => True) _ _ ?_
        clear hK K
        refine mv_done ?_
        rw [← ewc]
        clear ewc z0 z1 g0 g1
        go_wp2
        go_roundw
        case rel => exact ⟨0 + 1, by omega, by first | rfl | go_num, by rw [x1.out, x2.out]; exact KW, KX, BB⟩
        case measure => simp [intOf] <;> omega
      · obtain ⟨x1, x2⟩ := hs_take hlt hk0
        generalize l.getD k 0 = x at c0 x1 x2
        have n0 : ¬ k = 0 := by omega
        have n1 : ((k : Int) == 0) = false := by simp; omega
        obtain ⟨lo, elo⟩ : ∃ z, z = lmin (l.take k) := ⟨_, rfl⟩
        obtain ⟨hi, ehi⟩ : ∃ z, z = lmax (l.take k) := ⟨_, rfl⟩
        rw [← elo, ← ehi] at KW
        rw [← elo] at x1
        rw [← ehi] at x2
        clear elo ehi
        obtain ⟨m1, em1⟩ : ∃ z, z = lmin (l.take (k + 1)) := ⟨_, rfl⟩
        obtain ⟨m2, em2⟩ : ∃ z, z = lmax (l.take (k + 1)) := ⟨_, rfl⟩
        rw [← em1] at x1
        rw [← em2] at x2
        replace x1 := x1.symm
        replace x2 := x2.symm
        replace em1 := Lib.hid em1
        replace em2 := Lib.hid em2
        obtain ⟨z0, z1, g0, g1⟩ : wr.cell? ⟨q, 0, none⟩ = some (.int .i64 lo) ∧ wr.cell? ⟨q, 1, none⟩ = some (.int .i64 hi) ∧ wr.frozen? ⟨q, 0, none⟩ = false ∧ wr.frozen? ⟨q, 1, none⟩ = false := ⟨KW.c 0 _ rfl, KW.c 1 _ rfl, KW.f 0 (by simp), KW.f 1 (by simp)⟩
        go_wp2_with fail
        refine region_still [(8, [(7, 8), (6, 8), (0, 8), (1, 8), (2, 8), (3, 8), (4, 8), (5, 8)])] [(.free, 0), (.take, 1), (.free, 2), (.free, 3), (.free, 4), (.take, 5), (.free, 6), (.free, 7), (.late, 8)] _ (by kernel_rfl) (by kernel_rfl) (by kernel_rfl) (by kernel_rfl) (by decide) rfl (fun _ _ _ _ _ h => h) ?_
        simp only [List.filterMap_cons, List.filterMap_nil, List.getElem?_toArray, List.getElem?_cons_zero, List.getElem?_cons_succ, Option.map_some]
        iterate 1
          first
            | (refine mv_free ?_ (Or.inl ⟨by rfl, ?_⟩) (rfl) ?_
               rotate_left 1
               · intro u
                 go_simp
                 try simp only [d1]
                 try simp only [d2]
                 try simp only [d3]
                 try with_reducible rfl
               simp only [Act.put, List.setIfInBounds_toArray, List.set_cons_zero, List.set_cons_succ])
            | (refine mv_free _ (Or.inr ⟨by rfl, rfl⟩) (rfl) ?_
               simp only [Act.put, List.setIfInBounds_toArray, List.set_cons_zero, List.set_cons_succ])
        iterate 1
          first
            | (refine mv_take ?_ (Or.inl ⟨by rfl, ?_⟩) (rfl) ?_
               rotate_left 1
               · intro u hu
                 (try dsimp only at hu)
                 go_simp
                 try with_reducible rfl
               simp only [Act.put, List.setIfInBounds_toArray, List.set_cons_zero, List.set_cons_succ])
            | (refine mv_take _ (Or.inr ⟨by rfl, rfl⟩) (rfl) ?_
               simp only [Act.put, List.setIfInBounds_toArray, List.set_cons_zero, List.set_cons_succ])
        iterate 3
          first
            | (refine mv_free ?_ (Or.inl ⟨by rfl, ?_⟩) (rfl) ?_
               rotate_left 1
               · intro u
                 go_simp
                 try simp only [d1]
                 try simp only [d2]
                 try simp only [d3]
                 try with_reducible rfl
               simp only [Act.put, List.setIfInBounds_toArray, List.set_cons_zero, List.set_cons_succ])
            | (refine mv_free _ (Or.inr ⟨by rfl, rfl⟩) (rfl) ?_
               simp only [Act.put, List.setIfInBounds_toArray, List.set_cons_zero, List.set_cons_succ])
        iterate 1
          first
            | (refine mv_take ?_ (Or.inl ⟨by rfl, ?_⟩) (rfl) ?_
               rotate_left 1
               · intro u hu
                 (try dsimp only at hu)
                 go_simp
                 try with_reducible rfl
               simp only [Act.put, List.setIfInBounds_toArray, List.set_cons_zero, List.set_cons_succ])
            | (refine mv_take _ (Or.inr ⟨by rfl, rfl⟩) (rfl) ?_
               simp only [Act.put, List.setIfInBounds_toArray, List.set_cons_zero, List.set_cons_succ])
        iterate 2
          first
            | (refine mv_free ?_ (Or.inl ⟨by rfl, ?_⟩) (rfl) ?_
               rotate_left 1
               · intro u
                 go_simp
                 try simp only [d1]
                 try simp only [d2]
                 try simp only [d3]
                 try with_reducible rfl
               simp only [Act.put, List.setIfInBounds_toArray, List.set_cons_zero, List.set_cons_succ])
            | (refine mv_free _ (Or.inr ⟨by rfl, rfl⟩) (rfl) ?_
               simp only [Act.put, List.setIfInBounds_toArray, List.set_cons_zero, List.set_cons_succ])
        refine mv_late (fun K hK => ?_)
        go_simp
        obtain ⟨wb, ewb⟩ : ∃ z, z = (wr.setCell ⟨q, 0, none⟩ (.int .i64 m1)).drew := ⟨_, rfl⟩
        replace KW : Held q [.int .i64 (m1), .int .i64 (hi)] wb := by rw [ewb]; exact (KW.set 0 (.int .i64 m1) (by simp)).drew
        replace KX : Held w.heap.size [.int .i64 (A 0), .int .i64 (A 1), .int .i64 (B 0), .int .i64 (B 1)] wb := by rw [ewb]; exact (KX.only (Only.setCell (p := ⟨q, 0, none⟩) (Only.refl q _) (.int .i64 m1)) (by have := hq.out; show w.heap.size ≠ q; omega)).drew
        replace BB : Below w.heap.size w wb := by rw [ewb]; exact (BB.setCell (p := ⟨q, 0, none⟩) (by have := hq.out; show w.heap.size ≤ q; omega) (.int .i64 m1)).drew
        replace c0 : wb.cell? ⟨b, off + k, none⟩ = some (.int .i64 x) := by rw [ewb]; exact ((hcq _ 0 _).trans c0)
        refine hK.out (fun _ => True) _ _ ?_
        clear hK K
        refine mv_done ?_
        rw [← ewb]
        clear ewb z0 z1 g0 g1
        obtain ⟨z0, z1, g0, g1⟩ : wb.cell? ⟨q, 0, none⟩ = some (.int .i64 m1) ∧ wb.cell? ⟨q, 1, none⟩ = some (.int .i64 hi) ∧ wb.frozen? ⟨q, 0, none⟩ = false ∧ wb.frozen? ⟨q, 1, none⟩ = false := ⟨KW.c 0 _ rfl, KW.c 1 _ rfl, KW.f 0 (by simp), KW.f 1 (by simp)⟩
        go_wp2_with fail
        refine region_still [(8, [(7, 8), (6, 8), (0, 8), (1, 8), (2, 8), (3, 8), (4, 8), (5, 8)])] [(.free, 0), (.take, 1), (.free, 2), (.free, 3), (.free, 4), (.take, 5), (.free, 6), (.free, 7), (.late, 8)] _ (by kernel_rfl) (by kernel_rfl) (by kernel_rfl) (by kernel_rfl) (by decide) rfl (fun _ _ _ _ _ h => h) ?_
        simp only [List.filterMap_cons, List.filterMap_nil, List.getElem?_toArray, List.getElem?_cons_zero, List.getElem?_cons_succ, Option.map_some]
        iterate 1
          first
            | (refine mv_free ?_ (Or.inl ⟨by rfl, ?_⟩) (rfl) ?_
               rotate_left 1
               · intro u
                 go_simp
                 try simp only [d1]
                 try simp only [d2]
                 try simp only [d3]
                 try with_reducible rfl
               simp only [Act.put, List.setIfInBounds_toArray, List.set_cons_zero, List.set_cons_succ])
            | (refine mv_free _ (Or.inr ⟨by rfl, rfl⟩) (rfl) ?_
               simp only [Act.put, List.setIfInBounds_toArray, List.set_cons_zero, List.set_cons_succ])
        iterate 1
          first
            | (refine mv_take ?_ (Or.inl ⟨by rfl, ?_⟩) (rfl) ?_
               rotate_left 1
               · intro u hu
                 (try dsimp only at hu)
                 go_simp
                 try with_reducible rfl
               simp only [Act.put, List.setIfInBounds_toArray, List.set_cons_zero, List.set_cons_succ])
            | (refine mv_take _ (Or.inr ⟨by rfl, rfl⟩) (rfl) ?_
               simp only [Act.put, List.setIfInBounds_toArray, List.set_cons_zero, List.set_cons_succ])
        iterate 3
          first
            | (refine mv_free ?_ (Or.inl ⟨by rfl, ?_⟩) (rfl) ?_
               rotate_left 1
               · intro u
                 go_simp
                 try simp only [d1]
                 try simp only [d2]
                 try simp only [d3]
                 try with_reducible rfl
               simp only [Act.put, List.setIfInBounds_toArray, List.set_cons_zero, List.set_cons_succ])
            | (refine mv_free _ (Or.inr ⟨by rfl, rfl⟩) (rfl) ?_
               simp only [Act.put, List.setIfInBounds_toArray, List.set_cons_zero, List.set_cons_succ])
        iterate 1
          first
            | (refine mv_take ?_ (Or.inl ⟨by rfl, ?_⟩) (rfl) ?_
               rotate_left 1
               · intro u hu
                 (try dsimp only at hu)
                 go_simp
                 try with_reducible rfl
               simp only [Act.put, List.setIfInBounds_toArray, List.set_cons_zero, List.set_cons_succ])
            | (refine mv_take _ (Or.inr ⟨by rfl, rfl⟩) (rfl) ?_
               simp only [Act.put, List.setIfInBounds_toArray, List.set_cons_zero, List.set_cons_succ])
        iterate 2
          first
            | (refine mv_free ?_ (Or.inl ⟨by rfl, ?_⟩) (rfl) ?_
               rotate_left 1
               · intro u
                 go_simp
                 try simp only [d1]
                 try simp only [d2]
                 try simp only [d3]
                 try with_reducible rfl
               simp only [Act.put, List.setIfInBounds_toArray, List.set_cons_zero, List.set_cons_succ])
            | (refine mv_free _ (Or.inr ⟨by rfl, rfl⟩) (rfl) ?_
               simp only [Act.put, List.setIfInBounds_toArray, List.set_cons_zero, List.set_cons_succ])
        refine mv_late (fun K hK => ?_)
        go_simp
        obtain ⟨wc, ewc⟩ : ∃ z, z = (wb.setCell ⟨q, 1, none⟩ (.int .i64 m2)).drew := ⟨_, rfl⟩
        replace KW : Held q [.int .i64 (m1), .int .i64 (m2)] wc := by rw [ewc]; exact (KW.set 1 (.int .i64 m2) (by simp)).drew
        replace KX : Held w.heap.size [.int .i64 (A 0), .int .i64 (A 1), .int .i64 (B 0), .int .i64 (B 1)] wc := by rw [ewc]; exact (KX.only (Only.setCell (p := ⟨q, 1, none⟩) (Only.refl q _) (.int .i64 m2)) (by have := hq.out; show w.heap.size ≠ q; omega)).drew
        replace BB : Below w.heap.size w wc := by rw [ewc]; exact (BB.setCell (p := ⟨q, 1, none⟩) (by have := hq.out; show w.heap.size ≤ q; omega) (.int .i64 m2)).drew
        replace c0 : wc.cell? ⟨b, off + k, none⟩ = some (.int .i64 x) := by rw [ewc]; exact ((hcq _ 1 _).trans c0)
        refine hK.out (fun _ => True) _ _ ?_
        clear hK K
        refine mv_done ?_
        rw [← ewc]
        clear ewc z0 z1 g0 g1
        go_wp2
        go_roundw
        case rel => exact ⟨k + 1, by omega, by first | rfl | go_num, by rw [← em1.out, ← em2.out]; exact KW, KX, BB⟩
        case measure => simp [intOf] <;> omega
    · obtain rfl : k = l.length := by omega
      rw [List.take_length] at KW
      generalize lmin l = lo at *
      generalize lmax l = hi at *
      generalize ofB l = ob at *
      clear hlt hk
      go_wp2_with fail
      refine (OF.out _ BB).mono ?_
      rintro e w2 ⟨rfl, hb2⟩
      replace KW := KW.bel hb2
      replace KX := KX.bel hb2
      replace BB := BB.trans (hb2.mono BB.size)
      clear hb2
      obtain ⟨V2, e2⟩ : ∃ z, z = w2.alloc (.cells #[.int .i64 (lo), .int .i64 (hi)] 61) := ⟨_, rfl⟩
      have K9 : Held w2.heap.size [.int .i64 (lo), .int .i64 (hi)] V2 := by rw [e2]; exact Held.new w2 _ _
      replace KW : Held q [.int .i64 (lo), .int .i64 (hi)] V2 := by rw [e2]; exact KW.alloc _
      replace KX : Held w.heap.size [.int .i64 (A 0), .int .i64 (A 1), .int .i64 (B 0), .int .i64 (B 1)] V2 := by rw [e2]; exact KX.alloc _
      replace BB : Below w.heap.size w V2 := by rw [e2]; exact BB.alloc BB.size _
      go_upto_region 12 with (fail)
      rw [← e2]
      clear e2
      obtain ⟨q9, eq9⟩ : ∃ z, z = w2.heap.size := ⟨_, rfl⟩
      rw [← eq9] at K9 ⊢
      clear eq9
      skip
      have l0 := KX.lt
      have lq := Lib.hid KW.lt
      have l9 := Lib.hid K9.lt
      obtain ⟨B0, eB0⟩ : ∃ B0, B0 = V2.heap.size := ⟨_, rfl⟩
      rw [← eB0] at l0 lq l9
      have bB0 := Lib.hid (show w.heap.size ≤ B0 from by have := BB.size; omega)
      refine region_inv_at (fun a_ V_ b a u => ∃ q11 q12, HsI A B w.heap.size B0 w V2 a_ b q11 q12 a u) (by kernel_rfl) (by kernel_rfl) ⟨0, 0, ⟨Sk.refl _ _, (Below.refl _ _).drew, Nat.le_of_eq eB0, l0, KX.drew, by simp, by simp, by simp, by simp, by simp, by simp, by simp, by simp, by simp⟩⟩ ?_ ?_
      · intro i o ho b a u I hb hd K hK
        obtain ⟨q11, q12, I⟩ := I
        have hi : i < 8 := (Array.getElem?_eq_some_iff.1 ho).1
        rcases (show i = 0 ∨ i = 1 ∨ i = 2 ∨ i = 3 ∨ i = 4 ∨ i = 5 ∨ i = 6 ∨ i = 7 by omega) with rfl | rfl | rfl | rfl | rfl | rfl | rfl | rfl
        · obtain rfl := Option.some.inj ho
          have d0 : a.tmps.getD 4 undef = .pointer (some ⟨w.heap.size, 0, none⟩) := (I.sk.slot 4 (by decide)).trans rfl
          have I' := Lib.hid I
          clear I hd hb
          go_simp
          exact hK.out _ _ ⟨q11, q12, I'.out.next0 (by show _ < 193; omega) (Below.refl _ _)⟩
        · obtain rfl := Option.some.inj ho
          have d0 := I.s0 (hd 0 (by decide))
          have hXX := I.h0
          obtain ⟨c0, f0⟩ := hXX.one 0 rfl
          obtain ⟨c1, f1⟩ := hXX.one 1 rfl
          obtain ⟨c2, f2⟩ := hXX.one 2 rfl
          obtain ⟨c3, f3⟩ := hXX.one 3 rfl
          clear hXX
          have I' := Lib.hid I
          clear I hd hb
          go_simp
          exact hK.out _ _ ⟨q11, q12, I'.out.next1 (by show _ < 193; omega) (Below.refl _ _)⟩
        · obtain rfl := Option.some.inj ho
          have d0 : a.tmps.getD 4 undef = .pointer (some ⟨w.heap.size, 0, none⟩) := (I.sk.slot 4 (by decide)).trans rfl
          have I' := Lib.hid I
          clear I hd hb
          go_simp
          exact hK.out _ _ ⟨q11, q12, I'.out.next2 (by show _ < 193; omega) (Below.refl _ _)⟩
        · obtain rfl := Option.some.inj ho
          have d0 := I.s2 (hd 2 (by decide))
          have hXX := I.h0
          obtain ⟨c0, f0⟩ := hXX.one 0 rfl
          obtain ⟨c1, f1⟩ := hXX.one 1 rfl
          obtain ⟨c2, f2⟩ := hXX.one 2 rfl
          obtain ⟨c3, f3⟩ := hXX.one 3 rfl
          clear hXX
          have I' := Lib.hid I
          clear I hd hb
          go_simp
          exact hK.out _ _ ⟨q11, q12, I'.out.next3 (by show _ < 193; omega) (Below.refl _ _)⟩
        · obtain rfl := Option.some.inj ho
          have I' := Lib.hid I
          have hbb := Lib.hid hb
          clear I hd hb
          go_simp
          exact hK.out _ _ ⟨_, q12, I'.out.next4 (by show _ < 193; omega) hbb.out⟩
        · obtain rfl := Option.some.inj ho
          have I' := Lib.hid I
          have hbb := Lib.hid hb
          clear I hd hb
          go_simp
          exact hK.out _ _ ⟨q11, _, I'.out.next5 (by show _ < 193; omega) hbb.out⟩
        · obtain rfl := Option.some.inj ho
          have ha := hd 4 (by decide)
          have h2 := I.s1 (hd 1 (by decide))
          obtain ⟨h3, -, cs, hc, hh, -⟩ := I.s4 ha
          obtain ⟨x0, x1, rfl⟩ := l2x hc
          obtain ⟨c0, f0⟩ := hh.one 0 rfl
          obtain ⟨c1, f1⟩ := hh.one 1 rfl
          have I' := Lib.hid (I.next6 ha)
          clear I hd hb hh hc
          go_simp
          exact hK.out _ _ ⟨q11, q12, I'.out⟩
        · obtain rfl := Option.some.inj ho
          have ha := hd 5 (by decide)
          have h2 := I.s3 (hd 3 (by decide))
          obtain ⟨h3, -, cs, hc, hh, -⟩ := I.s5 ha
          obtain ⟨x0, x1, rfl⟩ := l2x hc
          obtain ⟨c0, f0⟩ := hh.one 0 rfl
          obtain ⟨c1, f1⟩ := hh.one 1 rfl
          have I' := Lib.hid (I.next7 ha)
          clear I hd hb hh hc
          go_simp
          exact hK.out _ _ ⟨q11, q12, I'.out⟩
      · intro b a u hall I
        obtain ⟨q11, q12, I⟩ := I
        have ea := I.fin (fun i _ h => hall i h) (by show _ < 193; omega)
        obtain ⟨-, r0, cs0, -, k0, j0⟩ := I.s4 (hall 4 (by decide))
        rw [j0 (hall 6 (by decide))] at k0
        obtain ⟨-, r1, cs1, -, k1, j1⟩ := I.s5 (hall 5 (by decide))
        rw [j1 (hall 7 (by decide))] at k1
        have KK : HsK q q9 q11 q12 lo hi A B w u := ⟨KW.below I.bel lq.out, K9.below I.bel l9.out, k0, k1, BB.trans (I.bel.mono bB0.out)⟩
        subst ea
        clear I hall k0 k1 j0 j1 KW K9 KX BB l0 lq l9 bB0 r0 r1 OF hr
        simp only [Act.put, List.setIfInBounds_toArray, List.set_cons_zero, List.set_cons_succ]
        replace KK := Lib.hid KK
        clear eB0
        have hh_ := KK.out.kw
        obtain ⟨c0, f0⟩ := hh_.one 0 rfl
        obtain ⟨c1, f1⟩ := hh_.one 1 rfl
        clear hh_
        have hh_ := KK.out.k9
        obtain ⟨d0, g0⟩ := hh_.one 0 rfl
        obtain ⟨d1, g1⟩ := hh_.one 1 rfl
        clear hh_
        have hh_ := KK.out.ka
        obtain ⟨a0, h0⟩ := hh_.one 0 rfl
        obtain ⟨a1, h1⟩ := hh_.one 1 rfl
        clear hh_
        go_wp2_with fail
        refine region_moves (fun u => u.cell? ⟨q, 0, none⟩ = some (.int .i64 (lo)) ∧ u.cell? ⟨q, 1, none⟩ = some (.int .i64 (hi)) ∧ u.cell? ⟨q9, 0, none⟩ = some (.int .i64 (lo)) ∧ u.cell? ⟨q9, 1, none⟩ = some (.int .i64 (hi)) ∧ u.cell? ⟨q11, 0, none⟩ = some (.int .i64 (A 0)) ∧ u.cell? ⟨q11, 1, none⟩ = some (.int .i64 (A 1))) [] [(.take, 0), (.take, 1), (.free, 2), (.free, 3), (.free, 4), (.free, 5), (.free, 6), (.free, 7), (.free, 8), (.free, 9), (.free, 10), (.take, 11), (.take, 13), (.step, 12), (.step, 14), (.free, 15), (.free, 16), (.free, 17), (.take, 18), (.free, 19), (.free, 21), (.take, 22), (.free, 23), (.free, 24), (.step, 20), (.free, 25), (.free, 26), (.free, 27), (.take, 28), (.free, 29), (.free, 30), (.free, 31), (.free, 32)] _ (by kernel_rfl) (by kernel_rfl) (by kernel_rfl) (by kernel_rfl) (by decide) rfl (fun _ _ _ _ _ h => h) ?_
        simp only [List.filterMap_cons, List.filterMap_nil, List.getElem?_toArray, List.getElem?_cons_zero, List.getElem?_cons_succ, Option.map_some]
        iterate 2
          first
            | (refine mv_take ?_ (Or.inl ⟨by rfl, ?_⟩) (⟨c0, c1, d0, d1, a0, a1⟩) ?_
               rotate_left 1
               · intro u hu
                 (try dsimp only at hu)
                 go_simp
                 try with_reducible rfl
               simp only [Act.put, List.setIfInBounds_toArray, List.set_cons_zero, List.set_cons_succ])
            | (refine mv_take _ (Or.inr ⟨by rfl, rfl⟩) (⟨c0, c1, d0, d1, a0, a1⟩) ?_
               simp only [Act.put, List.setIfInBounds_toArray, List.set_cons_zero, List.set_cons_succ])
        iterate 9
          first
            | (refine mv_free ?_ (Or.inl ⟨by rfl, ?_⟩) (⟨c0, c1, d0, d1, a0, a1⟩) ?_
               rotate_left 1
               · intro u
                 go_simp
                 try simp only [d1]
                 try simp only [d2]
                 try simp only [d3]
                 try with_reducible rfl
               simp only [Act.put, List.setIfInBounds_toArray, List.set_cons_zero, List.set_cons_succ])
            | (refine mv_free _ (Or.inr ⟨by rfl, rfl⟩) (⟨c0, c1, d0, d1, a0, a1⟩) ?_
               simp only [Act.put, List.setIfInBounds_toArray, List.set_cons_zero, List.set_cons_succ])
        iterate 2
          first
            | (refine mv_take ?_ (Or.inl ⟨by rfl, ?_⟩) (⟨c0, c1, d0, d1, a0, a1⟩) ?_
               rotate_left 1
               · intro u hu
                 (try dsimp only at hu)
                 go_simp
                 try with_reducible rfl
               simp only [Act.put, List.setIfInBounds_toArray, List.set_cons_zero, List.set_cons_succ])
            | (refine mv_take _ (Or.inr ⟨by rfl, rfl⟩) (⟨c0, c1, d0, d1, a0, a1⟩) ?_
               simp only [Act.put, List.setIfInBounds_toArray, List.set_cons_zero, List.set_cons_succ])
        refine mv_step (fun K hK => ?_)
        go_simp
        refine (HR.out _).mono ?_
        rintro e w3 ⟨rfl, hq⟩
        replace KK := Lib.hid (KK.out.drew.next hq)
        clear hq
        clear c0 c1 f0 f1 d0 d1 g0 g1 a0 a1 h0 h1
        have hh_ := KK.out.kw
        obtain ⟨c0, f0⟩ := hh_.one 0 rfl
        obtain ⟨c1, f1⟩ := hh_.one 1 rfl
        clear hh_
        have hh_ := KK.out.k9
        obtain ⟨d0, g0⟩ := hh_.one 0 rfl
        obtain ⟨d1, g1⟩ := hh_.one 1 rfl
        clear hh_
        have hh_ := KK.out.ka
        obtain ⟨a0, h0⟩ := hh_.one 0 rfl
        obtain ⟨a1, h1⟩ := hh_.one 1 rfl
        clear hh_
        go_wp2_with fail
        refine hK.out _ _ _ (fun u hu => hu) (⟨c0, c1, d0, d1, a0, a1⟩) ?_
        clear hK K
        refine mv_step (fun K hK => ?_)
        go_simp
        refine (LR.out _).mono ?_
        rintro e w4 ⟨rfl, hq⟩
        replace KK := Lib.hid (KK.out.next hq)
        clear hq
        clear c0 c1 f0 f1 d0 d1 g0 g1 a0 a1 h0 h1
        have hh_ := KK.out.kw
        obtain ⟨c0, f0⟩ := hh_.one 0 rfl
        obtain ⟨c1, f1⟩ := hh_.one 1 rfl
        clear hh_
        have hh_ := KK.out.k9
        obtain ⟨d0, g0⟩ := hh_.one 0 rfl
        obtain ⟨d1, g1⟩ := hh_.one 1 rfl
        clear hh_
        have hh_ := KK.out.ka
        obtain ⟨a0, h0⟩ := hh_.one 0 rfl
        obtain ⟨a1, h1⟩ := hh_.one 1 rfl
        clear hh_
        go_wp2_with fail
        refine hK.out _ _ _ (fun u hu => hu) (⟨c0, c1, d0, d1, a0, a1⟩) ?_
        clear hK K
        iterate 3
          first
            | (refine mv_free ?_ (Or.inl ⟨by rfl, ?_⟩) (⟨c0, c1, d0, d1, a0, a1⟩) ?_
               rotate_left 1
               · intro u
                 go_simp
                 try simp only [d1]
                 try simp only [d2]
                 try simp only [d3]
                 try with_reducible rfl
               simp only [Act.put, List.setIfInBounds_toArray, List.set_cons_zero, List.set_cons_succ])
            | (refine mv_free _ (Or.inr ⟨by rfl, rfl⟩) (⟨c0, c1, d0, d1, a0, a1⟩) ?_
               simp only [Act.put, List.setIfInBounds_toArray, List.set_cons_zero, List.set_cons_succ])
        iterate 1
          first
            | (refine mv_take ?_ (Or.inl ⟨by rfl, ?_⟩) (⟨c0, c1, d0, d1, a0, a1⟩) ?_
               rotate_left 1
               · intro u hu
                 (try dsimp only at hu)
                 go_simp
                 try with_reducible rfl
               simp only [Act.put, List.setIfInBounds_toArray, List.set_cons_zero, List.set_cons_succ])
            | (refine mv_take _ (Or.inr ⟨by rfl, rfl⟩) (⟨c0, c1, d0, d1, a0, a1⟩) ?_
               simp only [Act.put, List.setIfInBounds_toArray, List.set_cons_zero, List.set_cons_succ])
        iterate 2
          first
            | (refine mv_free ?_ (Or.inl ⟨by rfl, ?_⟩) (⟨c0, c1, d0, d1, a0, a1⟩) ?_
               rotate_left 1
               · intro u
                 go_simp
                 try simp only [d1]
                 try simp only [d2]
                 try simp only [d3]
                 try with_reducible rfl
               simp only [Act.put, List.setIfInBounds_toArray, List.set_cons_zero, List.set_cons_succ])
            | (refine mv_free _ (Or.inr ⟨by rfl, rfl⟩) (⟨c0, c1, d0, d1, a0, a1⟩) ?_
               simp only [Act.put, List.setIfInBounds_toArray, List.set_cons_zero, List.set_cons_succ])
        iterate 1
          first
            | (refine mv_take ?_ (Or.inl ⟨by rfl, ?_⟩) (⟨c0, c1, d0, d1, a0, a1⟩) ?_
               rotate_left 1
               · intro u hu
                 (try dsimp only at hu)
                 go_simp
                 try with_reducible rfl
               simp only [Act.put, List.setIfInBounds_toArray, List.set_cons_zero, List.set_cons_succ])
            | (refine mv_take _ (Or.inr ⟨by rfl, rfl⟩) (⟨c0, c1, d0, d1, a0, a1⟩) ?_
               simp only [Act.put, List.setIfInBounds_toArray, List.set_cons_zero, List.set_cons_succ])
        iterate 2
          first
            | (refine mv_free ?_ (Or.inl ⟨by rfl, ?_⟩) (⟨c0, c1, d0, d1, a0, a1⟩) ?_
               rotate_left 1
               · intro u
                 go_simp
                 try simp only [d1]
                 try simp only [d2]
                 try simp only [d3]
                 try with_reducible rfl
               simp only [Act.put, List.setIfInBounds_toArray, List.set_cons_zero, List.set_cons_succ])
            | (refine mv_free _ (Or.inr ⟨by rfl, rfl⟩) (⟨c0, c1, d0, d1, a0, a1⟩) ?_
               simp only [Act.put, List.setIfInBounds_toArray, List.set_cons_zero, List.set_cons_succ])
        refine mv_step (fun K hK => ?_)
        go_simp
        refine (HS.out _).mono ?_
        rintro e w5 ⟨rfl, hq⟩
        replace KK := Lib.hid (KK.out.next hq)
        clear hq
        clear c0 c1 f0 f1 d0 d1 g0 g1 a0 a1 h0 h1
        have hh_ := KK.out.kw
        obtain ⟨c0, f0⟩ := hh_.one 0 rfl
        obtain ⟨c1, f1⟩ := hh_.one 1 rfl
        clear hh_
        have hh_ := KK.out.k9
        obtain ⟨d0, g0⟩ := hh_.one 0 rfl
        obtain ⟨d1, g1⟩ := hh_.one 1 rfl
        clear hh_
        have hh_ := KK.out.ka
        obtain ⟨a0, h0⟩ := hh_.one 0 rfl
        obtain ⟨a1, h1⟩ := hh_.one 1 rfl
        clear hh_
        go_wp2_with fail
        refine hK.out _ _ _ (fun u hu => hu) (⟨c0, c1, d0, d1, a0, a1⟩) ?_
        clear hK K
        iterate 3
          first
            | (refine mv_free ?_ (Or.inl ⟨by rfl, ?_⟩) (⟨c0, c1, d0, d1, a0, a1⟩) ?_
               rotate_left 1
               · intro u
                 go_simp
                 try simp only [d1]
                 try simp only [d2]
                 try simp only [d3]
                 try with_reducible rfl
               simp only [Act.put, List.setIfInBounds_toArray, List.set_cons_zero, List.set_cons_succ])
            | (refine mv_free _ (Or.inr ⟨by rfl, rfl⟩) (⟨c0, c1, d0, d1, a0, a1⟩) ?_
               simp only [Act.put, List.setIfInBounds_toArray, List.set_cons_zero, List.set_cons_succ])
        iterate 1
          first
            | (refine mv_take ?_ (Or.inl ⟨by rfl, ?_⟩) (⟨c0, c1, d0, d1, a0, a1⟩) ?_
               rotate_left 1
               · intro u hu
                 (try dsimp only at hu)
                 go_simp
                 try with_reducible rfl
               simp only [Act.put, List.setIfInBounds_toArray, List.set_cons_zero, List.set_cons_succ])
            | (refine mv_take _ (Or.inr ⟨by rfl, rfl⟩) (⟨c0, c1, d0, d1, a0, a1⟩) ?_
               simp only [Act.put, List.setIfInBounds_toArray, List.set_cons_zero, List.set_cons_succ])
        iterate 4
          first
            | (refine mv_free ?_ (Or.inl ⟨by rfl, ?_⟩) (⟨c0, c1, d0, d1, a0, a1⟩) ?_
               rotate_left 1
               · intro u
                 go_simp
                 try simp only [d1]
                 try simp only [d2]
                 try simp only [d3]
                 try with_reducible rfl
               simp only [Act.put, List.setIfInBounds_toArray, List.set_cons_zero, List.set_cons_succ])
            | (refine mv_free _ (Or.inr ⟨by rfl, rfl⟩) (⟨c0, c1, d0, d1, a0, a1⟩) ?_
               simp only [Act.put, List.setIfInBounds_toArray, List.set_cons_zero, List.set_cons_succ])
        refine mv_done ?_
        clear c0 c1 f0 f1 d0 d1 g0 g1 a0 a1 h0 h1
        have hh_ := KK.out.ka
        obtain ⟨a0, h0⟩ := hh_.one 0 rfl
        obtain ⟨a1, h1⟩ := hh_.one 1 rfl
        clear hh_
        have hh_ := KK.out.kb
        obtain ⟨b0, g0⟩ := hh_.one 0 rfl
        obtain ⟨b1, g1⟩ := hh_.one 1 rfl
        clear hh_
        go_wp2_with fail
        refine (JN.out _).mono ?_
        rintro e w6 ⟨rfl, hq⟩
        clear a0 a1 h0 h1 b0 b1 g0 g1
        replace KK := Lib.hid (KK.out.next hq)
        clear hq
        obtain ⟨V6, e6⟩ : ∃ z, z = w6.alloc (.cells #[.int .i64 (B 0), .int .i64 (B 1)] 61) := ⟨_, rfl⟩
        have KJ : Held w6.heap.size [.int .i64 (B 0), .int .i64 (B 1)] V6 := by rw [e6]; exact Held.new w6 _ _
        replace KK : Hid (HsK q q9 q11 q12 lo hi A B w V6) := Lib.hid (by rw [e6]; exact KK.out.next (by repeat (first | exact Below.refl _ _ | assumption | apply Below.drew | apply below_drewN | (refine Below.alloc ?_ (by first | exact Nat.le_refl _ | omega | (simp <;> omega)) _) | (refine Below.setCell ?_ (by first | exact Nat.le_refl _ | omega | (simp <;> omega)) _))))
        go_upto_region 16 with (fail)
        rw [← e6]
        clear e6
        generalize w6.heap.size = q13 at *
        have hh_ := KK.out.ka
        obtain ⟨a0, h0⟩ := hh_.one 0 rfl
        obtain ⟨a1, h1⟩ := hh_.one 1 rfl
        clear hh_
        have hh_ := KK.out.kb
        obtain ⟨b0, g0⟩ := hh_.one 0 rfl
        obtain ⟨b1, g1⟩ := hh_.one 1 rfl
        clear hh_
        go_wp2_with fail
        refine (MT.out _).mono ?_
        rintro e w7 ⟨rfl, hq⟩
        clear a0 a1 h0 h1 b0 b1 g0 g1
        replace KK := Lib.hid (KK.out.next hq)
        replace KJ := KJ.bel hq
        clear hq
        obtain ⟨V7, e7⟩ : ∃ z, z = w7.alloc (.cells #[.int .i64 (0), .int .i64 (0)] 61) := ⟨_, rfl⟩
        have KM : Held w7.heap.size [.int .i64 (0), .int .i64 (0)] V7 := by rw [e7]; exact Held.new w7 _ _
        replace KK : Hid (HsK q q9 q11 q12 lo hi A B w V7) := Lib.hid (by rw [e7]; exact KK.out.next (by repeat (first | exact Below.refl _ _ | assumption | apply Below.drew | apply below_drewN | (refine Below.alloc ?_ (by first | exact Nat.le_refl _ | omega | (simp <;> omega)) _) | (refine Below.setCell ?_ (by first | exact Nat.le_refl _ | omega | (simp <;> omega)) _))))
        replace KJ : Held q13 [.int .i64 (B 0), .int .i64 (B 1)] V7 := by rw [e7]; exact KJ.alloc _
        go_upto_region 17 with (fail)
        rw [← e7]
        clear e7
        generalize w7.heap.size = q14 at *
        have hh_ := KK.out.ka
        obtain ⟨a0, h0⟩ := hh_.one 0 rfl
        obtain ⟨a1, h1⟩ := hh_.one 1 rfl
        clear hh_
        have hh_ := KK.out.kb
        obtain ⟨b0, g0⟩ := hh_.one 0 rfl
        obtain ⟨b1, g1⟩ := hh_.one 1 rfl
        clear hh_
        have hh_ := KJ
        obtain ⟨j0, i0⟩ := hh_.one 0 rfl
        obtain ⟨j1, i1⟩ := hh_.one 1 rfl
        clear hh_
        have hh_ := KM
        obtain ⟨m0, n0⟩ := hh_.one 0 rfl
        obtain ⟨m1, n1⟩ := hh_.one 1 rfl
        clear hh_
        go_wp2_with fail
        refine (LR.out _).mono ?_
        rintro e w19 ⟨rfl, hq⟩
        clear a0 a1 h0 h1 b0 b1 g0 g1 j0 j1 i0 i1 m0 m1 n0 n1
        replace KK := Lib.hid (KK.out.next hq)
        replace KJ := KJ.bel hq
        replace KM := KM.bel hq
        clear hq
        have hh_ := KK.out.ka
        obtain ⟨a0, h0⟩ := hh_.one 0 rfl
        obtain ⟨a1, h1⟩ := hh_.one 1 rfl
        clear hh_
        have hh_ := KK.out.kb
        obtain ⟨b0, g0⟩ := hh_.one 0 rfl
        obtain ⟨b1, g1⟩ := hh_.one 1 rfl
        clear hh_
        have hh_ := KJ
        obtain ⟨j0, i0⟩ := hh_.one 0 rfl
        obtain ⟨j1, i1⟩ := hh_.one 1 rfl
        clear hh_
        have hh_ := KM
        obtain ⟨m0, n0⟩ := hh_.one 0 rfl
        obtain ⟨m1, n1⟩ := hh_.one 1 rfl
        clear hh_
        go_wp2_with fail
        refine (LR.out _).mono ?_
        rintro e w20 ⟨rfl, hq⟩
        clear a0 a1 h0 h1 b0 b1 g0 g1 j0 j1 i0 i1 m0 m1 n0 n1
        replace KK := Lib.hid (KK.out.next hq)
        replace KJ := KJ.bel hq
        replace KM := KM.bel hq
        clear hq
        have hh_ := KK.out.ka
        obtain ⟨a0, h0⟩ := hh_.one 0 rfl
        obtain ⟨a1, h1⟩ := hh_.one 1 rfl
        clear hh_
        have hh_ := KK.out.kb
        obtain ⟨b0, g0⟩ := hh_.one 0 rfl
        obtain ⟨b1, g1⟩ := hh_.one 1 rfl
        clear hh_
        have hh_ := KJ
        obtain ⟨j0, i0⟩ := hh_.one 0 rfl
        obtain ⟨j1, i1⟩ := hh_.one 1 rfl
        clear hh_
        have hh_ := KM
        obtain ⟨m0, n0⟩ := hh_.one 0 rfl
        obtain ⟨m1, n1⟩ := hh_.one 1 rfl
        clear hh_
        go_wp2_with fail
        refine (LRB.out _).mono ?_
        rintro e w21 ⟨rfl, hq⟩
        clear a0 a1 h0 h1 b0 b1 g0 g1 j0 j1 i0 i1 m0 m1 n0 n1
        replace KK := Lib.hid (KK.out.next hq)
        replace KJ := KJ.bel hq
        replace KM := KM.bel hq
        clear hq
        have hh_ := KK.out.ka
        obtain ⟨a0, h0⟩ := hh_.one 0 rfl
        obtain ⟨a1, h1⟩ := hh_.one 1 rfl
        clear hh_
        have hh_ := KK.out.kb
        obtain ⟨b0, g0⟩ := hh_.one 0 rfl
        obtain ⟨b1, g1⟩ := hh_.one 1 rfl
        clear hh_
        have hh_ := KJ
        obtain ⟨j0, i0⟩ := hh_.one 0 rfl
        obtain ⟨j1, i1⟩ := hh_.one 1 rfl
        clear hh_
        have hh_ := KM
        obtain ⟨m0, n0⟩ := hh_.one 0 rfl
        obtain ⟨m1, n1⟩ := hh_.one 1 rfl
        clear hh_
        go_wp2_with fail
        refine (LV.out _).mono ?_
        rintro e w22 ⟨rfl, hq⟩
        clear a0 a1 h0 h1 b0 b1 g0 g1 j0 j1 i0 i1 m0 m1 n0 n1
        replace KK := Lib.hid (KK.out.next hq)
        replace KJ := KJ.bel hq
        replace KM := KM.bel hq
        clear hq
        go_wp2
        go_ret
        exact ⟨rfl, KK.out.bel⟩
set_option maxRecDepth 100000 in
set_option maxHeartbeats 8000000 in
theorem hs_01x0 (a : Option Addr) (cap : Nat) (l : List Int) (A B : Nat → Int) (v : Int) (w : World) (hr : RowIs .i64 w a l) (hl : l.length ≤ maxLen) (h : l.length ≤ 200) (hA : A 1 < A 0) (hB : B 0 ≤ B 1) (hV : v < A 0)  : Calls Try.prog 8 #[.slice a l.length cap, .agg #[.int .i64 (A 0), .int .i64 (A 1), .int .i64 (B 0), .int .i64 (B 1)], .int .i64 v] w fun e w' => e = .returned (.bool true) ∧ Below w.heap.size w w' := by
  obtain ⟨V, eV, hb0, hX, hz⟩ : ∃ V, V = w.alloc (.cells #[.int .i64 (A 0), .int .i64 (A 1), .int .i64 (B 0), .int .i64 (B 1)] 62) ∧ Below w.heap.size w V ∧ Held w.heap.size [.int .i64 (A 0), .int .i64 (A 1), .int .i64 (B 0), .int .i64 (B 1)] V ∧ V.heap.size = w.heap.size + 1 := ⟨_, rfl, (by repeat (first | exact Below.refl _ _ | assumption | apply Below.drew | apply below_drewN | (refine Below.alloc ?_ (by first | exact Nat.le_refl _ | omega | (simp <;> omega)) _) | (refine Below.setCell ?_ (by first | exact Nat.le_refl _ | omega | (simp <;> omega)) _))), Held.new w [.int .i64 (A 0), .int .i64 (A 1), .int .i64 (B 0), .int .i64 (B 1)] _, by simp⟩
  have LV := Lib.hid (fun u => lives35 u)
  have HR := Lib.hid (fun u => hright_any (A 0) (A 1) u)
  have LR := Lib.hid (fun u => lright_any (A 0) (A 1) u)
  have LRB := Lib.hid (fun u => lright_any (B 0) (B 1) u)
  have HS := Lib.hid (fun u => has_any (A 0) (A 1) v u)
  have JN := fun u => join_any (A 0) (A 1) (B 0) (B 1) u
  have MT := fun u => meet_any (A 0) (A 1) (B 0) (B 1) u
  have OF := Lib.hid (fun u (k : Below w.heap.size w u) => of_any a cap l u (hr.below k) hl)
  have hL : ¬ (200 : Int) < (l.length : Int) := by omega
  rw [show joinL (A 0) (A 1) (B 0) (B 1) = B 0 from by unfold joinL; omega, show joinH (A 0) (A 1) (B 0) (B 1) = B 1 from by unfold joinH; omega] at JN
  have hM2 : (if B 1 < A 1 then B 1 else A 1) < (if A 0 < B 0 then B 0 else A 0) := by omega
  rw [show meetL (A 0) (A 1) (B 0) (B 1) = 0 from by unfold meetL; rw [if_pos hM2], show meetH (A 0) (A 1) (B 0) (B 1) = 0 from by unfold meetH; rw [if_pos hM2], show meetB (A 0) (A 1) (B 0) (B 1) = false from by unfold meetB; exact decide_eq_false (by omega)] at MT
  clear hM2
  have eA : decide (A 0 ≤ A 1) = false := by simp; omega
  rw [eA] at HR LR
  have eB : decide (B 0 ≤ B 1) = true := by simp; omega
  rw [eB] at LRB
  have eV1 : decide (A 0 ≤ v) = false := by simp; omega
  have eV2 : decide (A 0 ≤ v ∧ v ≤ A 1) = false := by simp; omega
  rw [eV2] at HS
  clear eV2
  have eO : decide ((0 : Int) < (l.length : Int)) = ofB l := by unfold ofB; simp
  have eO2 : decide (0 < l.length) = ofB l := rfl
  clear hA hB hV
  replace JN := Lib.hid JN
  replace MT := Lib.hid MT
  replace hX := Lib.hid hX
  replace hb0 := Lib.hid hb0
  replace hr := Lib.hid hr
  go_enter Try.func8, Try.ntmps8
  go_upto_region 1 with (fail)
  rw [← eV]
  clear eV
  go_upto_region 4 with (fail)
  obtain ⟨V1, e1⟩ : ∃ z, z = V.alloc (.cells #[.int .i64 0, .int .i64 0] 61) := ⟨_, rfl⟩
  have KW : Held V.heap.size [.int .i64 0, .int .i64 0] V1 := by rw [e1]; exact Held.new V _ _
  have KX : Held w.heap.size [.int .i64 (A 0), .int .i64 (A 1), .int .i64 (B 0), .int .i64 (B 1)] V1 := by rw [e1]; exact hX.out.alloc _
  have BB : Below w.heap.size w V1 := by rw [e1]; exact hb0.out.alloc (by omega) _
  rw [← e1]
  clear e1
  rw [hz] at KW
  obtain ⟨q, eq⟩ : ∃ z, z = w.heap.size + 1 := ⟨_, rfl⟩
  rw [← eq] at KW ⊢
  clear hX hb0 hz
  have hq := Lib.hid eq
  clear eq
  skip
  go_wp2_with fail
  go_loopw [8] (fun i v => ∃ k : Nat, k ≤ l.length ∧ i = .int .i64 (k : Int) ∧ Held q [.int .i64 (lmin (l.take k)), .int .i64 (lmax (l.take k))] v ∧ Held w.heap.size [.int .i64 (A 0), .int .i64 (A 1), .int .i64 (B 0), .int .i64 (B 1)] v ∧ Below w.heap.size w v) (fun i _ => l.length - (intOf i).toNat)
  case atStart => exact ⟨0, by omega, rfl, KW, KX, BB⟩
  case round =>
    clear KW KX BB
    obtain ⟨k, hk, rfl, KW, KX, BB⟩ := hrel
    by_cases hlt : k < l.length
    · obtain ⟨b, off, ea, hbb, hc⟩ := hr.out.at hlt
      subst ea
      have c0 : wr.cell? ⟨b, off + k, none⟩ = some (.int .i64 (l.getD k 0)) := (BB.cell (p := ⟨b, off + k, none⟩) hbb).trans hc
      have i0 : 0 ≤ (k : Int) := by omega
      have i1 : (k : Int) < (l.length : Int) := by omega
      have i2 : IntKind.i64.wrap ((k : Int) + 1) = (k : Int) + 1 := by rw [IntKind.wrap_i64]; omega
      have hbq : b ≠ q := by have := hq.out; have : b < w.heap.size := hbb; omega
      have hcq : ∀ (u : World) (j : Nat) (y : Value), (u.setCell ⟨q, j, none⟩ y).cell? ⟨b, off + k, none⟩ = u.cell? ⟨b, off + k, none⟩ := fun u j y => World.cell?_setCell_other u ⟨q, j, none⟩ ⟨b, off + k, none⟩ y (fun he => hbq (by injection he with h1 _ _; exact h1.symm))
      clear hc hbb
      rcases Nat.eq_zero_or_pos k with hk0 | hk0
      · subst hk0
        have kk : ((0 : Nat) : Int) = 0 := rfl
        have p0 : (0 : Int) < (l.length : Int) := by omega
        replace c0 : wr.cell? ⟨b, off, none⟩ = some (.int .i64 (l.getD 0 0)) := c0
        clear i0 i1 i2
        have i2 : IntKind.i64.wrap (0 + 1) = 1 := by decide
        obtain ⟨x1, x2⟩ := hs_one hlt
        rw [show l.take 0 = [] from rfl] at KW
        replace KW : Held q [.int .i64 0, .int .i64 0] wr := KW
        generalize l.getD 0 0 = x at c0 x1 x2
        replace x1 := Lib.hid x1
        replace x2 := Lib.hid x2
        obtain ⟨z0, z1, g0, g1⟩ : wr.cell? ⟨q, 0, none⟩ = some (.int .i64 0) ∧ wr.cell? ⟨q, 1, none⟩ = some (.int .i64 0) ∧ wr.frozen? ⟨q, 0, none⟩ = false ∧ wr.frozen? ⟨q, 1, none⟩ = false := ⟨KW.c 0 _ rfl, KW.c 1 _ rfl, KW.f 0 (by simp), KW.f 1 (by simp)⟩
        go_wp2_with fail
        refine region_still [(7, [(6, 7), (0, 7), (1, 7), (2, 7), (3, 7), (4, 7), (5, 7)])] [(.free, 0), (.free, 1), (.take, 2), (.free, 3), (.free, 4), (.take, 5), (.free, 6), (.late, 7)] _ (by kernel_rfl) (by kernel_rfl) (by kernel_rfl) (by kernel_rfl) (by decide) rfl (fun _ _ _ _ _ h => h) ?_
        simp only [List.filterMap_cons, List.filterMap_nil, List.getElem?_toArray, List.getElem?_cons_zero, List.getElem?_cons_succ, Option.map_some]
        iterate 2
          first
            | (refine mv_free ?_ (Or.inl ⟨by rfl, ?_⟩) (rfl) ?_
               rotate_left 1
               · intro u
                 go_simp
                 try simp only [d1]
                 try simp only [d2]
                 try simp only [d3]
                 try with_reducible rfl
               simp only [Act.put, List.setIfInBounds_toArray, List.set_cons_zero, List.set_cons_succ])
            | (refine mv_free _ (Or.inr ⟨by rfl, rfl⟩) (rfl) ?_
               simp only [Act.put, List.setIfInBounds_toArray, List.set_cons_zero, List.set_cons_succ])
        iterate 1
          first
            | (refine mv_take ?_ (Or.inl ⟨by rfl, ?_⟩) (rfl) ?_
               rotate_left 1
               · intro u hu
                 (try dsimp only at hu)
                 go_simp
                 try with_reducible rfl
               simp only [Act.put, List.setIfInBounds_toArray, List.set_cons_zero, List.set_cons_succ])
            | (refine mv_take _ (Or.inr ⟨by rfl, rfl⟩) (rfl) ?_
               simp only [Act.put, List.setIfInBounds_toArray, List.set_cons_zero, List.set_cons_succ])
        iterate 2
          first
            | (refine mv_free ?_ (Or.inl ⟨by rfl, ?_⟩) (rfl) ?_
               rotate_left 1
               · intro u
                 go_simp
                 try simp only [d1]
                 try simp only [d2]
                 try simp only [d3]
                 try with_reducible rfl
               simp only [Act.put, List.setIfInBounds_toArray, List.set_cons_zero, List.set_cons_succ])
            | (refine mv_free _ (Or.inr ⟨by rfl, rfl⟩) (rfl) ?_
               simp only [Act.put, List.setIfInBounds_toArray, List.set_cons_zero, List.set_cons_succ])
        iterate 1
          first
            | (refine mv_take ?_ (Or.inl ⟨by rfl, ?_⟩) (rfl) ?_
               rotate_left 1
               · intro u hu
                 (try dsimp only at hu)
                 go_simp
                 try with_reducible rfl
               simp only [Act.put, List.setIfInBounds_toArray, List.set_cons_zero, List.set_cons_succ])
            | (refine mv_take _ (Or.inr ⟨by rfl, rfl⟩) (rfl) ?_
               simp only [Act.put, List.setIfInBounds_toArray, List.set_cons_zero, List.set_cons_succ])
        iterate 1
          first
            | (refine mv_free ?_ (Or.inl ⟨by rfl, ?_⟩) (rfl) ?_
               rotate_left 1
               · intro u
                 go_simp
                 try simp only [d1]
                 try simp only [d2]
                 try simp only [d3]
                 try with_reducible rfl
               simp only [Act.put, List.setIfInBounds_toArray, List.set_cons_zero, List.set_cons_succ])
            | (refine mv_free _ (Or.inr ⟨by rfl, rfl⟩) (rfl) ?_
               simp only [Act.put, List.setIfInBounds_toArray, List.set_cons_zero, List.set_cons_succ])
        refine mv_late (fun K hK => ?_)
        go_simp
        obtain ⟨wa, ewa⟩ : ∃ z, z = ((wr.setCell ⟨q, 0, none⟩ (.int .i64 x)).setCell ⟨q, 1, none⟩ (.int .i64 x)).drew := ⟨_, rfl⟩
        replace KW : Held q [.int .i64 (x), .int .i64 (x)] wa := by rw [ewa]; exact ((KW.set 0 (.int .i64 x) (by simp)).set 1 (.int .i64 x) (by simp)).drew
        replace KX : Held w.heap.size [.int .i64 (A 0), .int .i64 (A 1), .int .i64 (B 0), .int .i64 (B 1)] wa := by rw [ewa]; exact ((KX.only (Only.setCell (p := ⟨q, 0, none⟩) (Only.refl q _) (.int .i64 x)) (by have := hq.out; show w.heap.size ≠ q; omega)).only (Only.setCell (p := ⟨q, 1, none⟩) (Only.refl q _) (.int .i64 x)) (by have := hq.out; show w.heap.size ≠ q; omega)).drew
        replace BB : Below w.heap.size w wa := by rw [ewa]; exact ((BB.setCell (p := ⟨q, 0, none⟩) (by have := hq.out; show w.heap.size ≤ q; omega) (.int .i64 x)).setCell (p := ⟨q, 1, none⟩) (by have := hq.out; show w.heap.size ≤ q; omega) (.int .i64 x)).drew
        replace c0 : wa.cell? ⟨b, off, none⟩ = some (.int .i64 x) := by rw [ewa]; exact ((hcq _ 1 _).trans ((hcq _ 0 _).trans c0))
        refine hK.out (fun _ => True) _ _ ?_
        clear hK K
        refine mv_done ?_
        rw [← ewa]
        clear ewa z0 z1 g0 g1
        obtain ⟨z0, z1, g0, g1⟩ : wa.cell? ⟨q, 0, none⟩ = some (.int .i64 x) ∧ wa.cell? ⟨q, 1, none⟩ = some (.int .i64 x) ∧ wa.frozen? ⟨q, 0, none⟩ = false ∧ wa.frozen? ⟨q, 1, none⟩ = false := ⟨KW.c 0 _ rfl, KW.c 1 _ rfl, KW.f 0 (by simp), KW.f 1 (by simp)⟩
        go_wp2_with fail
        refine region_still [(8, [(7, 8), (6, 8), (0, 8), (1, 8), (2, 8), (3, 8), (4, 8), (5, 8)])] [(.free, 0), (.take, 1), (.free, 2), (.free, 3), (.free, 4), (.take, 5), (.free, 6), (.free, 7), (.late, 8)] _ (by kernel_rfl) (by kernel_rfl) (by kernel_rfl) (by kernel_rfl) (by decide) rfl (fun _ _ _ _ _ h => h) ?_
        simp only [List.filterMap_cons, List.filterMap_nil, List.getElem?_toArray, List.getElem?_cons_zero, List.getElem?_cons_succ, Option.map_some]
        iterate 1
          first
            | (refine mv_free ?_ (Or.inl ⟨by rfl, ?_⟩) (rfl) ?_
               rotate_left 1
               · intro u
                 go_simp
                 try simp only [d1]
                 try simp only [d2]
                 try simp only [d3]
                 try with_reducible rfl
               simp only [Act.put, List.setIfInBounds_toArray, List.set_cons_zero, List.set_cons_succ])
            | (refine mv_free _ (Or.inr ⟨by rfl, rfl⟩) (rfl) ?_
               simp only [Act.put, List.setIfInBounds_toArray, List.set_cons_zero, List.set_cons_succ])
        iterate 1
          first
            | (refine mv_take ?_ (Or.inl ⟨by rfl, ?_⟩) (rfl) ?_
               rotate_left 1
               · intro u hu
                 (try dsimp only at hu)
                 go_simp
                 try with_reducible rfl
               simp only [Act.put, List.setIfInBounds_toArray, List.set_cons_zero, List.set_cons_succ])
            | (refine mv_take _ (Or.inr ⟨by rfl, rfl⟩) (rfl) ?_
               simp only [Act.put, List.setIfInBounds_toArray, List.set_cons_zero, List.set_cons_succ])
        iterate 3
          first
            | (refine mv_free ?_ (Or.inl ⟨by rfl, ?_⟩) (rfl) ?_
               rotate_left 1
               · intro u
                 go_simp
                 try simp only [d1]
                 try simp only [d2]
                 try simp only [d3]
                 try with_reducible rfl
               simp only [Act.put, List.setIfInBounds_toArray, List.set_cons_zero, List.set_cons_succ])
            | (refine mv_free _ (Or.inr ⟨by rfl, rfl⟩) (rfl) ?_
               simp only [Act.put, List.setIfInBounds_toArray, List.set_cons_zero, List.set_cons_succ])
        iterate 1
          first
            | (refine mv_take ?_ (Or.inl ⟨by rfl, ?_⟩) (rfl) ?_
               rotate_left 1
               · intro u hu
                 (try dsimp only at hu)
                 go_simp
                 try with_reducible rfl
               simp only [Act.put, List.setIfInBounds_toArray, List.set_cons_zero, List.set_cons_succ])
            | (refine mv_take _ (Or.inr ⟨by rfl, rfl⟩) (rfl) ?_
               simp only [Act.put, List.setIfInBounds_toArray, List.set_cons_zero, List.set_cons_succ])
        iterate 2
          first
            | (refine mv_free ?_ (Or.inl ⟨by rfl, ?_⟩) (rfl) ?_
               rotate_left 1
               · intro u
                 go_simp
                 try simp only [d1]
                 try simp only [d2]
                 try simp only [d3]
                 try with_reducible rfl
               simp only [Act.put, List.setIfInBounds_toArray, List.set_cons_zero, List.set_cons_succ])
            | (refine mv_free _ (Or.inr ⟨by rfl, rfl⟩) (rfl) ?_
               simp only [Act.put, List.setIfInBounds_toArray, List.set_cons_zero, List.set_cons_succ])
        refine mv_late (fun K hK => ?_)
        go_simp
        obtain ⟨wb, ewb⟩ : ∃ z, z = (wa.setCell ⟨q, 0, none⟩ (.int .i64 x)).drew := ⟨_, rfl⟩
        replace KW : Held q [.int .i64 (x), .int .i64 (x)] wb := by rw [ewb]; exact (KW.set 0 (.int .i64 x) (by simp)).drew
        replace KX : Held w.heap.size [.int .i64 (A 0), .int .i64 (A 1), .int .i64 (B 0), .int .i64 (B 1)] wb := by rw [ewb]; exact (KX.only (Only.setCell (p := ⟨q, 0, none⟩) (Only.refl q _) (.int .i64 x)) (by have := hq.out; show w.heap.size ≠ q; omega)).drew
        replace BB : Below w.heap.size w wb := by rw [ewb]; exact (BB.setCell (p := ⟨q, 0, none⟩) (by have := hq.out; show w.heap.size ≤ q; omega) (.int .i64 x)).drew
        replace c0 : wb.cell? ⟨b, off, none⟩ = some (.int .i64 x) := by rw [ewb]; exact ((hcq _ 0 _).trans c0)
        refine hK.out (fun _ => True) _ _ ?_
        clear hK K
        refine mv_done ?_
        rw [← ewb]
        clear ewb z0 z1 g0 g1
        obtain ⟨z0, z1, g0, g1⟩ : wb.cell? ⟨q, 0, none⟩ = some (.int .i64 x) ∧ wb.cell? ⟨q, 1, none⟩ = some (.int .i64 x) ∧ wb.frozen? ⟨q, 0, none⟩ = false ∧ wb.frozen? ⟨q, 1, none⟩ = false := ⟨KW.c 0 _ rfl, KW.c 1 _ rfl, KW.f 0 (by simp), KW.f 1 (by simp)⟩
        go_wp2_with fail
        refine region_still [(8, [(7, 8), (6, 8), (0, 8), (1, 8), (2, 8), (3, 8), (4, 8), (5, 8)])] [(.free, 0), (.take, 1), (.free, 2), (.free, 3), (.free, 4), (.take, 5), (.free, 6), (.free, 7), (.late, 8)] _ (by kernel_rfl) (by kernel_rfl) (by kernel_rfl) (by kernel_rfl) (by decide) rfl (fun _ _ _ _ _ h => h) ?_
        simp only [List.filterMap_cons, List.filterMap_nil, List.getElem?_toArray, List.getElem?_cons_zero, List.getElem?_cons_succ, Option.map_some]
        iterate 1
          first
            | (refine mv_free ?_ (Or.inl ⟨by rfl, ?_⟩) (rfl) ?_
               rotate_left 1
               · intro u
                 go_simp
                 try simp only [d1]
                 try simp only [d2]
                 try simp only [d3]
                 try with_reducible rfl
               simp only [Act.put, List.setIfInBounds_toArray, List.set_cons_zero, List.set_cons_succ])
            | (refine mv_free _ (Or.inr ⟨by rfl, rfl⟩) (rfl) ?_
               simp only [Act.put, List.setIfInBounds_toArray, List.set_cons_zero, List.set_cons_succ])
        iterate 1
          first
            | (refine mv_take ?_ (Or.inl ⟨by rfl, ?_⟩) (rfl) ?_
               rotate_left 1
               · intro u hu
                 (try dsimp only at hu)
                 go_simp
                 try with_reducible rfl
               simp only [Act.put, List.setIfInBounds_toArray, List.set_cons_zero, List.set_cons_succ])
            | (refine mv_take _ (Or.inr ⟨by rfl, rfl⟩) (rfl) ?_
               simp only [Act.put, List.setIfInBounds_toArray, List.set_cons_zero, List.set_cons_succ])
        iterate 3
          first
            | (refine mv_free ?_ (Or.inl ⟨by rfl, ?_⟩) (rfl) ?_
               rotate_left 1
               · intro u
                 go_simp
                 try simp only [d1]
                 try simp only [d2]
                 try simp only [d3]
                 try with_reducible rfl
               simp only [Act.put, List.setIfInBounds_toArray, List.set_cons_zero, List.set_cons_succ])
            | (refine mv_free _ (Or.inr ⟨by rfl, rfl⟩) (rfl) ?_
               simp only [Act.put, List.setIfInBounds_toArray, List.set_cons_zero, List.set_cons_succ])
        iterate 1
          first
            | (refine mv_take ?_ (Or.inl ⟨by rfl, ?_⟩) (rfl) ?_
               rotate_left 1
               · intro u hu
                 (try dsimp only at hu)
                 go_simp
                 try with_reducible rfl
               simp only [Act.put, List.setIfInBounds_toArray, List.set_cons_zero, List.set_cons_succ])
            | (refine mv_take _ (Or.inr ⟨by rfl, rfl⟩) (rfl) ?_
               simp only [Act.put, List.setIfInBounds_toArray, List.set_cons_zero, List.set_cons_succ])
        iterate 2
          first
            | (refine mv_free ?_ (Or.inl ⟨by rfl, ?_⟩) (rfl) ?_
               rotate_left 1
               · intro u
                 go_simp
                 try simp only [d1]
                 try simp only [d2]
                 try simp only [d3]
                 try with_reducible rfl
               simp only [Act.put, List.setIfInBounds_toArray, List.set_cons_zero, List.set_cons_succ])
            | (refine mv_free _ (Or.inr ⟨by rfl, rfl⟩) (rfl) ?_
               simp only [Act.put, List.setIfInBounds_toArray, List.set_cons_zero, List.set_cons_succ])
        refine mv_late (fun K hK => ?_)
        go_simp
        obtain ⟨wc, ewc⟩ : ∃ z, z = (wb.setCell ⟨q, 1, none⟩ (.int .i64 x)).drew := ⟨_, rfl⟩
        replace KW : Held q [.int .i64 (x), .int .i64 (x)] wc := by rw [ewc]; exact (KW.set 1 (.int .i64 x) (by simp)).drew
        replace KX : Held w.heap.size [.int .i64 (A 0), .int .i64 (A 1), .int .i64 (B 0), .int .i64 (B 1)] wc := by rw [ewc]; exact (KX.only (Only.setCell (p := ⟨q, 1, none⟩) (Only.refl q _) (.int .i64 x)) (by have := hq.out; show w.heap.size ≠ q; omega)).drew
        replace BB : Below w.heap.size w wc := by rw [ewc]; exact (BB.setCell (p := ⟨q, 1, none⟩) (by have := hq.out; show w.heap.size ≤ q; omega) (.int .i64 x)).drew
        replace c0 : wc.cell? ⟨b, off, none⟩ = some (.int .i64 x) := by rw [ewc]; exact ((hcq _ 1 _).trans c0)
        refine hK.out (fun _ => True) _ _ ?_
        clear hK K
        refine mv_done ?_
        rw [← ewc]
        clear ewc z0 z1 g0 g1
        go_wp2
        go_roundw
        case rel => exact ⟨0 + 1, by omega, by first | rfl | go_num, by rw [x1.out, x2.out]; exact KW, KX, BB⟩
        case measure => simp [intOf] <;> omega
      · obtain ⟨x1, x2⟩ := hs_take hlt hk0
        generalize l.getD k 0 = x at c0 x1 x2
        have n0 : ¬ k = 0 := by omega
        have n1 : ((k : Int) == 0) = false := by simp; omega
        obtain ⟨lo, elo⟩ : ∃ z, z = lmin (l.take k) := ⟨_, rfl⟩
        obtain ⟨hi, ehi⟩ : ∃ z, z = lmax (l.take k) := ⟨_, rfl⟩
        rw [← elo, ← ehi] at KW
        rw [← elo] at x1
        rw [← ehi] at x2
        clear elo ehi
        obtain ⟨m1, em1⟩ : ∃ z, z = lmin (l.take (k + 1)) := ⟨_, rfl⟩
        obtain ⟨m2, em2⟩ : ∃ z, z = lmax (l.take (k + 1)) := ⟨_, rfl⟩
        rw [← em1] at x1
        rw [← em2] at x2
        replace x1 := x1.symm
        replace x2 := x2.symm
        replace em1 := Lib.hid em1
        replace em2 := Lib.hid em2
        obtain ⟨z0, z1, g0, g1⟩ : wr.cell? ⟨q, 0, none⟩ = some (.int .i64 lo) ∧ wr.cell? ⟨q, 1, none⟩ = some (.int .i64 hi) ∧ wr.frozen? ⟨q, 0, none⟩ = false ∧ wr.frozen? ⟨q, 1, none⟩ = false := ⟨KW.c 0 _ rfl, KW.c 1 _ rfl, KW.f 0 (by simp), KW.f 1 (by simp)⟩
        go_wp2_with fail
        refine region_still [(8, [(7, 8), (6, 8), (0, 8), (1, 8), (2, 8), (3, 8), (4, 8), (5, 8)])] [(.free, 0), (.take, 1), (.free, 2), (.free, 3), (.free, 4), (.take, 5), (.free, 6), (.free, 7), (.late, 8)] _ (by kernel_rfl) (by kernel_rfl) (by kernel_rfl) (by kernel_rfl) (by decide) rfl (fun _ _ _ _ _ h => h) ?_
        simp only [List.filterMap_cons, List.filterMap_nil, List.getElem?_toArray, List.getElem?_cons_zero, List.getElem?_cons_succ, Option.map_some]
        iterate 1
          first
            | (refine mv_free ?_ (Or.inl ⟨by rfl, ?_⟩) (rfl) ?_
               rotate_left 1
               · intro u
                 go_simp
                 try simp only [d1]
                 try simp only [d2]
                 try simp only [d3]
                 try with_reducible rfl
               simp only [Act.put, List.setIfInBounds_toArray, List.set_cons_zero, List.set_cons_succ])
            | (refine mv_free _ (Or.inr ⟨by rfl, rfl⟩) (rfl) ?_
               simp only [Act.put, List.setIfInBounds_toArray, List.set_cons_zero, List.set_cons_succ])
        iterate 1
          first
            | (refine mv_take ?_ (Or.inl ⟨by rfl, ?_⟩) (rfl) ?_
               rotate_left 1
               · intro u hu
                 (try dsimp only at hu)
                 go_simp
                 try with_reducible rfl
               simp only [Act.put, List.setIfInBounds_toArray, List.set_cons_zero, List.set_cons_succ])
            | (refine mv_take _ (Or.inr ⟨by rfl, rfl⟩) (rfl) ?_
               simp only [Act.put, List.setIfInBounds_toArray, List.set_cons_zero, List.set_cons_succ])
        iterate 3
          first
            | (refine mv_free ?_ (Or.inl ⟨by rfl, ?_⟩) (rfl) ?_
               rotate_left 1
               · intro u
                 go_simp
                 try simp only [d1]
                 try simp only [d2]
                 try simp only [d3]
                 try with_reducible rfl
               simp only [Act.put, List.setIfInBounds_toArray, List.set_cons_zero, List.set_cons_succ])
            | (refine mv_free _ (Or.inr ⟨by rfl, rfl⟩) (rfl) ?_
               simp only [Act.put, List.setIfInBounds_toArray, List.set_cons_zero, List.set_cons_succ])
        iterate 1
          first
            | (refine mv_take ?_ (Or.inl ⟨by rfl, ?_⟩) (rfl) ?_
               rotate_left 1
               · intro u hu
                 (try dsimp only at hu)
                 go_simp
                 try with_reducible rfl
               simp only [Act.put, List.setIfInBounds_toArray, List.set_cons_zero, List.set_cons_succ])
            | (refine mv_take _ (Or.inr ⟨by rfl, rfl⟩) (rfl) ?_
               simp only [Act.put, List.setIfInBounds_toArray, List.set_cons_zero, List.set_cons_succ])
        iterate 2
          first
            | (refine mv_free ?_ (Or.inl ⟨by rfl, ?_⟩) (rfl) ?_
               rotate_left 1
               · intro u
                 go_simp
                 try simp only [d1]
                 try simp only [d2]
                 try simp only [d3]
                 try with_reducible rfl
               simp only [Act.put, List.setIfInBounds_toArray, List.set_cons_zero, List.set_cons_succ])
            | (refine mv_free _ (Or.inr ⟨by rfl, rfl⟩) (rfl) ?_
               simp only [Act.put, List.setIfInBounds_toArray, List.set_cons_zero, List.set_cons_succ])
        refine mv_late (fun K hK => ?_)
        go_simp
        obtain ⟨wb, ewb⟩ : ∃ z, z = (wr.setCell ⟨q, 0, none⟩ (.int .i64 m1)).drew := ⟨_, rfl⟩
        replace KW : Held q [.int .i64 (m1), .int .i64 (hi)] wb := by rw [ewb]; exact (KW.set 0 (.int .i64 m1) (by simp)).drew
        replace KX : Held w.heap.size [.int .i64 (A 0), .int .i64 (A 1), .int .i64 (B 0), .int .i64 (B 1)] wb := by rw [ewb]; exact (KX.only (Only.setCell (p := ⟨q, 0, none⟩) (Only.refl q _) (.int .i64 m1)) (by have := hq.out; show w.heap.size ≠ q; omega)).drew
        replace BB : Below w.heap.size w wb := by rw [ewb]; exact (BB.setCell (p := ⟨q, 0, none⟩) (by have := hq.out; show w.heap.size ≤ q; omega) (.int .i64 m1)).drew
        replace c0 : wb.cell? ⟨b, off + k, none⟩ = some (.int .i64 x) := by rw [ewb]; exact ((hcq _ 0 _).trans c0)
        refine hK.out (fun _ => True) _ _ ?_
        clear hK K
        refine mv_done ?_
        rw [← ewb]
        clear ewb z0 z1 g0 g1
        obtain ⟨z0, z1, g0, g1⟩ : wb.cell? ⟨q, 0, none⟩ = some (.int .i64 m1) ∧ wb.cell? ⟨q, 1, none⟩ = some (.int .i64 hi) ∧ wb.frozen? ⟨q, 0, none⟩ = false ∧ wb.frozen? ⟨q, 1, none⟩ = false := ⟨KW.c 0 _ rfl, KW.c 1 _ rfl, KW.f 0 (by simp), KW.f 1 (by simp)⟩
        go_wp2_with fail
        refine region_still [(8, [(7, 8), (6, 8), (0, 8), (1, 8), (2, 8), (3, 8), (4, 8), (5, 8)])] [(.free, 0), (.take, 1), (.free, 2), (.free, 3), (.free, 4), (.take, 5), (.free, 6), (.free, 7), (.late, 8)] _ (by kernel_rfl) (by kernel_rfl) (by kernel_rfl) (by kernel_rfl) (by decide) rfl (fun _ _ _ _ _ h => h) ?_
        simp only [List.filterMap_cons, List.filterMap_nil, List.getElem?_toArray, List.getElem?_cons_zero, List.getElem?_cons_succ, Option.map_some]
        iterate 1
          first
            | (refine mv_free ?_ (Or.inl ⟨by rfl, ?_⟩) (rfl) ?_
               rotate_left 1
               · intro u
                 go_simp
                 try simp only [d1]
                 try simp only [d2]
                 try simp only [d3]
                 try with_reducible rfl
               simp only [Act.put, List.setIfInBounds_toArray, List.set_cons_zero, List.set_cons_succ])
            | (refine mv_free _ (Or.inr ⟨by rfl, rfl⟩) (rfl) ?_
               simp only [Act.put, List.setIfInBounds_toArray, List.set_cons_zero, List.set_cons_succ])
        iterate 1
          first
            | (refine mv_take ?_ (Or.inl ⟨by rfl, ?_⟩) (rfl) ?_
               rotate_left 1
               · intro u hu
                 (try dsimp only at hu)
                 go_simp
                 try with_reducible rfl
               simp only [Act.put, List.setIfInBounds_toArray, List.set_cons_zero, List.set_cons_succ])
            | (refine mv_take _ (Or.inr ⟨by rfl, rfl⟩) (rfl) ?_
               simp only [Act.put, List.setIfInBounds_toArray, List.set_cons_zero, List.set_cons_succ])
        iterate 3
          first
            | (refine mv_free ?_ (Or.inl ⟨by rfl, ?_⟩) (rfl) ?_
               rotate_left 1
               · intro u
                 go_simp
                 try simp only [d1]
                 try simp only [d2]
                 try simp only [d3]
                 try with_reducible rfl
               simp only [Act.put, List.setIfInBounds_toArray, List.set_cons_zero, List.set_cons_succ])
            | (refine mv_free _ (Or.inr ⟨by rfl, rfl⟩) (rfl) ?_
               simp only [Act.put, List.setIfInBounds_toArray, List.set_cons_zero, List.set_cons_succ])
        iterate 1
          first
            | (refine mv_take ?_ (Or.inl ⟨by rfl, ?_⟩) (rfl) ?_
               rotate_left 1
               · intro u hu
                 (try dsimp only at hu)
                 go_simp
                 try with_reducible rfl
               simp only [Act.put, List.setIfInBounds_toArray, List.set_cons_zero, List.set_cons_succ])
            | (refine mv_take _ (Or.inr ⟨by rfl, rfl⟩) (rfl) ?_
               simp only [Act.put, List.setIfInBounds_toArray, List.set_cons_zero, List.set_cons_succ])
        iterate 2
          first
            | (refine mv_free ?_ (Or.inl ⟨by rfl, ?_⟩) (rfl) ?_
               rotate_left 1
               · intro u
                 go_simp
                 try simp only [d1]
                 try simp only [d2]
                 try simp only [d3]
                 try with_reducible rfl
               simp only [Act.put, List.setIfInBounds_toArray, List.set_cons_zero, List.set_cons_succ])
            | (refine mv_free _ (Or.inr ⟨by rfl, rfl⟩) (rfl) ?_
               simp only [Act.put, List.setIfInBounds_toArray, List.set_cons_zero, List.set_cons_succ])
        refine mv_late (fun K hK => ?_)
        go_simp
        obtain ⟨wc, ewc⟩ : ∃ z, z = (wb.setCell ⟨q, 1, none⟩ (.int .i64 m2)).drew := ⟨_, rfl⟩
        replace KW : Held q [.int .i64 (m1), .int .i64 (m2)] wc := by rw [ewc]; exact (KW.set 1 (.int .i64 m2) (by simp)).drew
        replace KX : Held w.heap.size [.int .i64 (A 0), .int .i64 (A 1), .int .i64 (B 0), .int .i64 (B 1)] wc := by rw [ewc]; exact (KX.only (Only.setCell (p := ⟨q, 1, none⟩) (Only.refl q _) (.int .i64 m2)) (by have := hq.out; show w.heap.size ≠ q; omega)).drew
        replace BB : Below w.heap.size w wc := by rw [ewc]; exact (BB.setCell (p := ⟨q, 1, none⟩) (by have := hq.out; show w.heap.size ≤ q; omega) (.int .i64 m2)).drew
        replace c0 : wc.cell? ⟨b, off + k, none⟩ = some (.int .i64 x) := by rw [ewc]; exact ((hcq _ 1 _).trans c0)
        refine hK.out (fun _ => True) _ _ ?_
        clear hK K
        refine mv_done ?_
        rw [← ewc]
        clear ewc z0 z1 g0 g1
        go_wp2
        go_roundw
        case rel => exact ⟨k + 1, by omega, by first | rfl | go_num, by rw [← em1.out, ← em2.out]; exact KW, KX, BB⟩
        case measure => simp [intOf] <;> omega
    · obtain rfl : k = l.length := by omega
      rw [List.take_length] at KW
      generalize lmin l = lo at *
      generalize lmax l = hi at *
      generalize ofB l = ob at *
      clear hlt hk
      go_wp2_with fail
      refine (OF.out _ BB).mono ?_
      rintro e w2 ⟨rfl, hb2⟩
      replace KW := KW.bel hb2
      replace KX := KX.bel hb2
      replace BB := BB.trans (hb2.mono BB.size)
      clear hb2
      obtain ⟨V2, e2⟩ : ∃ z, z = w2.alloc (.cells #[.int .i64 (lo), .int .i64 (hi)] 61) := ⟨_, rfl⟩
      have K9 : Held w2.heap.size [.int .i64 (lo), .int .i64 (hi)] V2 := by rw [e2]; exact Held.new w2 _ _
      replace KW : Held q [.int .i64 (lo), .int .i64 (hi)] V2 := by rw [e2]; exact KW.alloc _
      replace KX : Held w.heap.size [.int .i64 (A 0), .int .i64 (A 1), .int .i64 (B 0), .int .i64 (B 1)] V2 := by rw [e2]; exact KX.alloc _
      replace BB : Below w.heap.size w V2 := by rw [e2]; exact BB.alloc BB.size _
      go_upto_region 12 with (fail)
      rw [← e2]
      clear e2
      obtain ⟨q9, eq9⟩ : ∃ z, z = w2.heap.size := ⟨_, rfl⟩
      rw [← eq9] at K9 ⊢
      clear eq9
      skip
      have l0 := KX.lt
      have lq := Lib.hid KW.lt
      have l9 := Lib.hid K9.lt
      obtain ⟨B0, eB0⟩ : ∃ B0, B0 = V2.heap.size := ⟨_, rfl⟩
      rw [← eB0] at l0 lq l9
      have bB0 := Lib.hid (show w.heap.size ≤ B0 from by have := BB.size; omega)
      refine region_inv_at (fun a_ V_ b a u => ∃ q11 q12, HsI A B w.heap.size B0 w V2 a_ b q11 q12 a u) (by kernel_rfl) (by kernel_rfl) ⟨0, 0, ⟨Sk.refl _ _, (Below.refl _ _).drew, Nat.le_of_eq eB0, l0, KX.drew, by simp, by simp, by simp, by simp, by simp, by simp, by simp, by simp, by simp⟩⟩ ?_ ?_
      · intro i o ho b a u I hb hd K hK
        obtain ⟨q11, q12, I⟩ := I
        have hi : i < 8 := (Array.getElem?_eq_some_iff.1 ho).1
        rcases (show i = 0 ∨ i = 1 ∨ i = 2 ∨ i = 3 ∨ i = 4 ∨ i = 5 ∨ i = 6 ∨ i = 7 by omega) with rfl | rfl | rfl | rfl | rfl | rfl | rfl | rfl
        · obtain rfl := Option.some.inj ho
          have d0 : a.tmps.getD 4 undef = .pointer (some ⟨w.heap.size, 0, none⟩) := (I.sk.slot 4 (by decide)).trans rfl
          have I' := Lib.hid I
          clear I hd hb
          go_simp
          exact hK.out _ _ ⟨q11, q12, I'.out.next0 (by show _ < 193; omega) (Below.refl _ _)⟩
        · obtain rfl := Option.some.inj ho
          have d0 := I.s0 (hd 0 (by decide))
          have hXX := I.h0
          obtain ⟨c0, f0⟩ := hXX.one 0 rfl
          obtain ⟨c1, f1⟩ := hXX.one 1 rfl
          obtain ⟨c2, f2⟩ := hXX.one 2 rfl
          obtain ⟨c3, f3⟩ := hXX.one 3 rfl
          clear hXX
          have I' := Lib.hid I
          clear I hd hb
          go_simp
          exact hK.out _ _ ⟨q11, q12, I'.out.next1 (by show _ < 193; omega) (Below.refl _ _)⟩
        · obtain rfl := Option.some.inj ho
          have d0 : a.tmps.getD 4 undef = .pointer (some ⟨w.heap.size, 0, none⟩) := (I.sk.slot 4 (by decide)).trans rfl
          have I' := Lib.hid I
          clear I hd hb
          go_simp
          exact hK.out _ _ ⟨q11, q12, I'.out.next2 (by show _ < 193; omega) (Below.refl _ _)⟩
        · obtain rfl := Option.some.inj ho
          have d0 := I.s2 (hd 2 (by decide))
          have hXX := I.h0
          obtain ⟨c0, f0⟩ := hXX.one 0 rfl
          obtain ⟨c1, f1⟩ := hXX.one 1 rfl
          obtain ⟨c2, f2⟩ := hXX.one 2 rfl
          obtain ⟨c3, f3⟩ := hXX.one 3 rfl
          clear hXX
          have I' := Lib.hid I
          clear I hd hb
          go_simp
          exact hK.out _ _ ⟨q11, q12, I'.out.next3 (by show _ < 193; omega) (Below.refl _ _)⟩
        · obtain rfl := Option.some.inj ho
          have I' := Lib.hid I
          have hbb := Lib.hid hb
          clear I hd hb
          go_simp
          exact hK.out _ _ ⟨_, q12, I'.out.next4 (by show _ < 193; omega) hbb.out⟩
        · obtain rfl := Option.some.inj ho
          have I' := Lib.hid I
          have hbb := Lib.hid hb
          clear I hd hb
          go_simp
          exact hK.out _ _ ⟨q11, _, I'.out.next5 (by show _ < 193; omega) hbb.out⟩
        · obtain rfl := Option.some.inj ho
          have ha := hd 4 (by decide)
          have h2 := I.s1 (hd 1 (by decide))
          obtain ⟨h3, -, cs, hc, hh, -⟩ := I.s4 ha
          obtain ⟨x0, x1, rfl⟩ := l2x hc
          obtain ⟨c0, f0⟩ := hh.one 0 rfl
          obtain ⟨c1, f1⟩ := hh.one 1 rfl
          have I' := Lib.hid (I.next6 ha)
          clear I hd hb hh hc
          go_simp
          exact hK.out _ _ ⟨q11, q12, I'.out⟩
        · obtain rfl := Option.some.inj ho
          have ha := hd 5 (by decide)
          have h2 := I.s3 (hd 3 (by decide))
          obtain ⟨h3, -, cs, hc, hh, -⟩ := I.s5 ha
          obtain ⟨x0, x1, rfl⟩ := l2x hc
          obtain ⟨c0, f0⟩ := hh.one 0 rfl
          obtain ⟨c1, f1⟩ := hh.one 1 rfl
          have I' := Lib.hid (I.next7 ha)
          clear I hd hb hh hc
          go_simp
          exact hK.out _ _ ⟨q11, q12, I'.out⟩
      · intro b a u hall I
        obtain ⟨q11, q12, I⟩ := I
        have ea := I.fin (fun i _ h => hall i h) (by show _ < 193; omega)
        obtain ⟨-, r0, cs0, -, k0, j0⟩ := I.s4 (hall 4 (by decide))
        rw [j0 (hall 6 (by decide))] at k0
        obtain ⟨-, r1, cs1, -, k1, j1⟩ := I.s5 (hall 5 (by decide))
        rw [j1 (hall 7 (by decide))] at k1
        have KK : HsK q q9 q11 q12 lo hi A B w u := ⟨KW.below I.bel lq.out, K9.below I.bel l9.out, k0, k1, BB.trans (I.bel.mono bB0.out)⟩
        subst ea
        clear I hall k0 k1 j0 j1 KW K9 KX BB l0 lq l9 bB0 r0 r1 OF hr
        simp only [Act.put, List.setIfInBounds_toArray, List.set_cons_zero, List.set_cons_succ]
        replace KK := Lib.hid KK
        clear eB0
        have hh_ := KK.out.kw
        obtain ⟨c0, f0⟩ := hh_.one 0 rfl
        obtain ⟨c1, f1⟩ := hh_.one 1 rfl
        clear hh_
        have hh_ := KK.out.k9
        obtain ⟨d0, g0⟩ := hh_.one 0 rfl
        obtain ⟨d1, g1⟩ := hh_.one 1 rfl
        clear hh_
        have hh_ := KK.out.ka
        obtain ⟨a0, h0⟩ := hh_.one 0 rfl
        obtain ⟨a1, h1⟩ := hh_.one 1 rfl
        clear hh_
        go_wp2_with fail
        refine region_moves (fun u => u.cell? ⟨q, 0, none⟩ = some (.int .i64 (lo)) ∧ u.cell? ⟨q, 1, none⟩ = some (.int .i64 (hi)) ∧ u.cell? ⟨q9, 0, none⟩ = some (.int .i64 (lo)) ∧ u.cell? ⟨q9, 1, none⟩ = some (.int .i64 (hi)) ∧ u.cell? ⟨q11, 0, none⟩ = some (.int .i64 (A 0)) ∧ u.cell? ⟨q11, 1, none⟩ = some (.int .i64 (A 1))) [] [(.take, 0), (.take, 1), (.free, 2), (.free, 3), (.free, 4), (.free, 5), (.free, 6), (.free, 7), (.free, 8), (.free, 9), (.free, 10), (.take, 11), (.take, 13), (.step, 12), (.step, 14), (.free, 15), (.free, 16), (.free, 17), (.take, 18), (.free, 19), (.free, 21), (.take, 22), (.free, 23), (.free, 24), (.step, 20), (.free, 25), (.free, 26), (.free, 27), (.take, 28), (.free, 29), (.free, 30), (.free, 31), (.free, 32)] _ (by kernel_rfl) (by kernel_rfl) (by kernel_rfl) (by kernel_rfl) (by decide) rfl (fun _ _ _ _ _ h => h) ?_
        simp only [List.filterMap_cons, List.filterMap_nil, List.getElem?_toArray, List.getElem?_cons_zero, List.getElem?_cons_succ, Option.map_some]
        iterate 2
          first
            | (refine mv_take ?_ (Or.inl ⟨by rfl, ?_⟩) (⟨c0, c1, d0, d1, a0, a1⟩) ?_
               rotate_left 1
               · intro u hu
                 (try dsimp only at hu)
                 go_simp
                 try with_reducible rfl
               simp only [Act.put, List.setIfInBounds_toArray, List.set_cons_zero, List.set_cons_succ])
            | (refine mv_take _ (Or.inr ⟨by rfl, rfl⟩) (⟨c0, c1, d0, d1, a0, a1⟩) ?_
               simp only [Act.put, List.setIfInBounds_toArray, List.set_cons_zero, List.set_cons_succ])
        iterate 9
          first
            | (refine mv_free ?_ (Or.inl ⟨by rfl, ?_⟩) (⟨c0, c1, d0, d1, a0, a1⟩) ?_
               rotate_left 1
               · intro u
                 go_simp
                 try simp only [d1]
                 try simp only [d2]
                 try simp only [d3]
                 try with_reducible rfl
               simp only [Act.put, List.setIfInBounds_toArray, List.set_cons_zero, List.set_cons_succ])
            | (refine mv_free _ (Or.inr ⟨by rfl, rfl⟩) (⟨c0, c1, d0, d1, a0, a1⟩) ?_
               simp only [Act.put, List.setIfInBounds_toArray, List.set_cons_zero, List.set_cons_succ])
        iterate 2
          first
            | (refine mv_take ?_ (Or.inl ⟨by rfl, ?_⟩) (⟨c0, c1, d0, d1, a0, a1⟩) ?_
               rotate_left 1
               · intro u hu
                 (try dsimp only at hu)
                 go_simp
                 try with_reducible rfl
               simp only [Act.put, List.setIfInBounds_toArray, List.set_cons_zero, List.set_cons_succ])
            | (refine mv_take _ (Or.inr ⟨by rfl, rfl⟩) (⟨c0, c1, d0, d1, a0, a1⟩) ?_
               simp only [Act.put, List.setIfInBounds_toArray, List.set_cons_zero, List.set_cons_succ])
        refine mv_step (fun K hK => ?_)
        go_simp
        refine (HR.out _).mono ?_
        rintro e w3 ⟨rfl, hq⟩
        replace KK := Lib.hid (KK.out.drew.next hq)
        clear hq
        clear c0 c1 f0 f1 d0 d1 g0 g1 a0 a1 h0 h1
        have hh_ := KK.out.kw
        obtain ⟨c0, f0⟩ := hh_.one 0 rfl
        obtain ⟨c1, f1⟩ := hh_.one 1 rfl
        clear hh_
        have hh_ := KK.out.k9
        obtain ⟨d0, g0⟩ := hh_.one 0 rfl
        obtain ⟨d1, g1⟩ := hh_.one 1 rfl
        clear hh_
        have hh_ := KK.out.ka
        obtain ⟨a0, h0⟩ := hh_.one 0 rfl
        obtain ⟨a1, h1⟩ := hh_.one 1 rfl
        clear hh_
        go_wp2_with fail
        refine hK.out _ _ _ (fun u hu => hu) (⟨c0, c1, d0, d1, a0, a1⟩) ?_
        clear hK K
        refine mv_step (fun K hK => ?_)
        go_simp
        refine (LR.out _).mono ?_
        rintro e w4 ⟨rfl, hq⟩
        replace KK := Lib.hid (KK.out.next hq)
        clear hq
        clear c0 c1 f0 f1 d0 d1 g0 g1 a0 a1 h0 h1
        have hh_ := KK.out.kw
        obtain ⟨c0, f0⟩ := hh_.one 0 rfl
        obtain ⟨c1, f1⟩ := hh_.one 1 rfl
        clear hh_
        have hh_ := KK.out.k9
        obtain ⟨d0, g0⟩ := hh_.one 0 rfl
        obtain ⟨d1, g1⟩ := hh_.one 1 rfl
        clear hh_
        have hh_ := KK.out.ka
        obtain ⟨a0, h0⟩ := hh_.one 0 rfl
        obtain ⟨a1, h1⟩ := hh_.one 1 rfl
        clear hh_
        go_wp2_with fail
        refine hK.out _ _ _ (fun u hu => hu) (⟨c0, c1, d0, d1, a0, a1⟩) ?_
        clear hK K
        iterate 3
          first
            | (refine mv_free ?_ (Or.inl ⟨by rfl, ?_⟩) (⟨c0, c1, d0, d1, a0, a1⟩) ?_
               rotate_left 1
               · intro u
                 go_simp
                 try simp only [d1]
                 try simp only [d2]
                 try simp only [d3]
                 try with_reducible rfl
               simp only [Act.put, List.setIfInBounds_toArray, List.set_cons_zero, List.set_cons_succ])
            | (refine mv_free _ (Or.inr ⟨by rfl, rfl⟩) (⟨c0, c1, d0, d1, a0, a1⟩) ?_
               simp only [Act.put, List.setIfInBounds_toArray, List.set_cons_zero, List.set_cons_succ])
        iterate 1
          first
            | (refine mv_take ?_ (Or.inl ⟨by rfl, ?_⟩) (⟨c0, c1, d0, d1, a0, a1⟩) ?_
               rotate_left 1
               · intro u hu
                 (try dsimp only at hu)
                 go_simp
                 try with_reducible rfl
               simp only [Act.put, List.setIfInBounds_toArray, List.set_cons_zero, List.set_cons_succ])
            | (refine mv_take _ (Or.inr ⟨by rfl, rfl⟩) (⟨c0, c1, d0, d1, a0, a1⟩) ?_
               simp only [Act.put, List.setIfInBounds_toArray, List.set_cons_zero, List.set_cons_succ])
        iterate 2
          first
            | (refine mv_free ?_ (Or.inl ⟨by rfl, ?_⟩) (⟨c0, c1, d0, d1, a0, a1⟩) ?_
               rotate_left 1
               · intro u
                 go_simp
                 try simp only [d1]
                 try simp only [d2]
                 try simp only [d3]
                 try with_reducible rfl
               simp only [Act.put, List.setIfInBounds_toArray, List.set_cons_zero, List.set_cons_succ])
            | (refine mv_free _ (Or.inr ⟨by rfl, rfl⟩) (⟨c0, c1, d0, d1, a0, a1⟩) ?_
               simp only [Act.put, List.setIfInBounds_toArray, List.set_cons_zero, List.set_cons_succ])
        iterate 1
          first
            | (refine mv_take ?_ (Or.inl ⟨by rfl, ?_⟩) (⟨c0, c1, d0, d1, a0, a1⟩) ?_
               rotate_left 1
               · intro u hu
                 (try dsimp only at hu)
                 go_simp
                 try with_reducible rfl
               simp only [Act.put, List.setIfInBounds_toArray, List.set_cons_zero, List.set_cons_succ])
            | (refine mv_take _ (Or.inr ⟨by rfl, rfl⟩) (⟨c0, c1, d0, d1, a0, a1⟩) ?_
               simp only [Act.put, List.setIfInBounds_toArray, List.set_cons_zero, List.set_cons_succ])
        iterate 2
          first
            | (refine mv_free ?_ (Or.inl ⟨by rfl, ?_⟩) (⟨c0, c1, d0, d1, a0, a1⟩) ?_
               rotate_left 1
               · intro u
                 go_simp
                 try simp only [d1]
                 try simp only [d2]
                 try simp only [d3]
                 try with_reducible rfl
               simp only [Act.put, List.setIfInBounds_toArray, List.set_cons_zero, List.set_cons_succ])
            | (refine mv_free _ (Or.inr ⟨by rfl, rfl⟩) (⟨c0, c1, d0, d1, a0, a1⟩) ?_
               simp only [Act.put, List.setIfInBounds_toArray, List.set_cons_zero, List.set_cons_succ])
        refine mv_step (fun K hK => ?_)
        go_simp
        refine (HS.out _).mono ?_
        rintro e w5 ⟨rfl, hq⟩
        replace KK := Lib.hid (KK.out.next hq)
        clear hq
        clear c0 c1 f0 f1 d0 d1 g0 g1 a0 a1 h0 h1
        have hh_ := KK.out.kw
        obtain ⟨c0, f0⟩ := hh_.one 0 rfl
        obtain ⟨c1, f1⟩ := hh_.one 1 rfl
        clear hh_
        have hh_ := KK.out.k9
        obtain ⟨d0, g0⟩ := hh_.one 0 rfl
        obtain ⟨d1, g1⟩ := hh_.one 1 rfl
        clear hh_
        have hh_ := KK.out.ka
        obtain ⟨a0, h0⟩ := hh_.one 0 rfl
        obtain ⟨a1, h1⟩ := hh_.one 1 rfl
        clear hh_
        go_wp2_with fail
        refine hK.out _ _ _ (fun u hu => hu) (⟨c0, c1, d0, d1, a0, a1⟩) ?_
        clear hK K
        iterate 3
          first
            | (refine mv_free ?_ (Or.inl ⟨by rfl, ?_⟩) (⟨c0, c1, d0, d1, a0, a1⟩) ?_
               rotate_left 1
               · intro u
                 go_simp
                 try simp only [d1]
                 try simp only [d2]
                 try simp only [d3]
                 try with_reducible rfl
               simp only [Act.put, List.setIfInBounds_toArray, List.set_cons_zero, List.set_cons_succ])
            | (refine mv_free _ (Or.inr ⟨by rfl, rfl⟩) (⟨c0, c1, d0, d1, a0, a1⟩) ?_
               simp only [Act.put, List.setIfInBounds_toArray, List.set_cons_zero, List.set_cons_succ])
        iterate 1
          first
            | (refine mv_take ?_ (Or.inl ⟨by rfl, ?_⟩) (⟨c0, c1, d0, d1, a0, a1⟩) ?_
               rotate_left 1
               · intro u hu
                 (try dsimp only at hu)
                 go_simp
                 try with_reducible rfl
               simp only [Act.put, List.setIfInBounds_toArray, List.set_cons_zero, List.set_cons_succ])
            | (refine mv_take _ (Or.inr ⟨by rfl, rfl⟩) (⟨c0, c1, d0, d1, a0, a1⟩) ?_
               simp only [Act.put, List.setIfInBounds_toArray, List.set_cons_zero, List.set_cons_succ])
        iterate 4
          first
            | (refine mv_free ?_ (Or.inl ⟨by rfl, ?_⟩) (⟨c0, c1, d0, d1, a0, a1⟩) ?_
               rotate_left 1
               · intro u
                 go_simp
                 try simp only [d1]
                 try simp only [d2]
                 try simp only [d3]
                 try with_reducible rfl
               simp only [Act.put, List.setIfInBounds_toArray, List.set_cons_zero, List.set_cons_succ])
            | (refine mv_free _ (Or.inr ⟨by rfl, rfl⟩) (⟨c0, c1, d0, d1, a0, a1⟩) ?_
               simp only [Act.put, List.setIfInBounds_toArray, List.set_cons_zero, List.set_cons_succ])
        refine mv_done ?_
        clear c0 c1 f0 f1 d0 d1 g0 g1 a0 a1 h0 h1
        have hh_ := KK.out.ka
        obtain ⟨a0, h0⟩ := hh_.one 0 rfl
        obtain ⟨a1, h1⟩ := hh_.one 1 rfl
        clear hh_
        have hh_ := KK.out.kb
        obtain ⟨b0, g0⟩ := hh_.one 0 rfl
        obtain ⟨b1, g1⟩ := hh_.one 1 rfl
        clear hh_
        go_wp2_with fail
        refine (JN.out _).mono ?_
        rintro e w6 ⟨rfl, hq⟩
        clear a0 a1 h0 h1 b0 b1 g0 g1
        replace KK := Lib.hid (KK.out.next hq)
        clear hq
        obtain ⟨V6, e6⟩ : ∃ z, z = w6.alloc (.cells #[.int .i64 (B 0), .int .i64 (B 1)] 61) := ⟨_, rfl⟩
        have KJ : Held w6.heap.size [.int .i64 (B 0), .int .i64 (B 1)] V6 := by rw [e6]; exact Held.new w6 _ _
        replace KK : Hid (HsK q q9 q11 q12 lo hi A B w V6) := Lib.hid (by rw [e6]; exact KK.out.next (by repeat (first | exact Below.refl _ _ | assumption | apply Below.drew | apply below_drewN | (refine Below.alloc ?_ (by first | exact Nat.le_refl _ | omega | (simp <;> omega)) _) | (refine Below.setCell ?_ (by first | exact Nat.le_refl _ | omega | (simp <;> omega)) _))))
        go_upto_region 16 with (fail)
        rw [← e6]
        clear e6
        generalize w6.heap.size = q13 at *
        have hh_ := KK.out.ka
        obtain ⟨a0, h0⟩ := hh_.one 0 rfl
        obtain ⟨a1, h1⟩ := hh_.one 1 rfl
        clear hh_
        have hh_ := KK.out.kb
        obtain ⟨b0, g0⟩ := hh_.one 0 rfl
        obtain ⟨b1, g1⟩ := hh_.one 1 rfl
        clear hh_
        go_wp2_with fail
        refine (MT.out _).mono ?_
        rintro e w7 ⟨rfl, hq⟩
        clear a0 a1 h0 h1 b0 b1 g0 g1
        replace KK := Lib.hid (KK.out.next hq)
        replace KJ := KJ.bel hq
        clear hq
        obtain ⟨V7, e7⟩ : ∃ z, z = w7.alloc (.cells #[.int .i64 (0), .int .i64 (0)] 61) := ⟨_, rfl⟩
        have KM : Held w7.heap.size [.int .i64 (0), .int .i64 (0)] V7 := by rw [e7]; exact Held.new w7 _ _
        replace KK : Hid (HsK q q9 q11 q12 lo hi A B w V7) := Lib.hid (by rw [e7]; exact KK.out.next (by repeat (first | exact Below.refl _ _ | assumption | apply Below.drew | apply below_drewN | (refine Below.alloc ?_ (by first | exact Nat.le_refl _ | omega | (simp <;> omega)) _) | (refine Below.setCell ?_ (by first | exact Nat.le_refl _ | omega | (simp <;> omega)) _))))
        replace KJ : Held q13 [.int .i64 (B 0), .int .i64 (B 1)] V7 := by rw [e7]; exact KJ.alloc _
        go_upto_region 17 with (fail)
        rw [← e7]
        clear e7
        generalize w7.heap.size = q14 at *
        have hh_ := KK.out.ka
        obtain ⟨a0, h0⟩ := hh_.one 0 rfl
        obtain ⟨a1, h1⟩ := hh_.one 1 rfl
        clear hh_
        have hh_ := KK.out.kb
        obtain ⟨b0, g0⟩ := hh_.one 0 rfl
        obtain ⟨b1, g1⟩ := hh_.one 1 rfl
        clear hh_
        have hh_ := KJ
        obtain ⟨j0, i0⟩ := hh_.one 0 rfl
        obtain ⟨j1, i1⟩ := hh_.one 1 rfl
        clear hh_
        have hh_ := KM
        obtain ⟨m0, n0⟩ := hh_.one 0 rfl
        obtain ⟨m1, n1⟩ := hh_.one 1 rfl
        clear hh_
        go_wp2_with fail
        refine (LR.out _).mono ?_
        rintro e w19 ⟨rfl, hq⟩
        clear a0 a1 h0 h1 b0 b1 g0 g1 j0 j1 i0 i1 m0 m1 n0 n1
        replace KK := Lib.hid (KK.out.next hq)
        replace KJ := KJ.bel hq
        replace KM := KM.bel hq
        clear hq
        have hh_ := KK.out.ka
        obtain ⟨a0, h0⟩ := hh_.one 0 rfl
        obtain ⟨a1, h1⟩ := hh_.one 1 rfl
        clear hh_
        have hh_ := KK.out.kb
        obtain ⟨b0, g0⟩ := hh_.one 0 rfl
        obtain ⟨b1, g1⟩ := hh_.one 1 rfl
        clear hh_
        have hh_ := KJ
        obtain ⟨j0, i0⟩ := hh_.one 0 rfl
        obtain ⟨j1, i1⟩ := hh_.one 1 rfl
        clear hh_
        have hh_ := KM
        obtain ⟨m0, n0⟩ := hh_.one 0 rfl
        obtain ⟨m1, n1⟩ := hh_.one 1 rfl
        clear hh_
        go_wp2_with fail
        refine (LR.out _).mono ?_
        rintro e w20 ⟨rfl, hq⟩
        clear a0 a1 h0 h1 b0 b1 g0 g1 j0 j1 i0 i1 m0 m1 n0 n1
        replace KK := Lib.hid (KK.out.next hq)
        replace KJ := KJ.bel hq
        replace KM := KM.bel hq
        clear hq
        have hh_ := KK.out.ka
        obtain ⟨a0, h0⟩ := hh_.one 0 rfl
        obtain ⟨a1, h1⟩ := hh_.one 1 rfl
        clear hh_
        have hh_ := KK.out.kb
        obtain ⟨b0, g0⟩ := hh_.one 0 rfl
        obtain ⟨b1, g1⟩ := hh_.one 1 rfl
        clear hh_
        have hh_ := KJ
        obtain ⟨j0, i0⟩ := hh_.one 0 rfl
        obtain ⟨j1, i1⟩ := hh_.one 1 rfl
        clear hh_
        have hh_ := KM
        obtain ⟨m0, n0⟩ := hh_.one 0 rfl
        obtain ⟨m1, n1⟩ := hh_.one 1 rfl
        clear hh_
        go_wp2_with fail
        refine (LRB.out _).mono ?_
        rintro e w21 ⟨rfl, hq⟩
        clear a0 a1 h0 h1 b0 b1 g0 g1 j0 j1 i0 i1 m0 m1 n0 n1
        replace KK := Lib.hid (KK.out.next hq)
        replace KJ := KJ.bel hq
        replace KM := KM.bel hq
        clear hq
        have hh_ := KK.out.ka
        obtain ⟨a0, h0⟩ := hh_.one 0 rfl
        obtain ⟨a1, h1⟩ := hh_.one 1 rfl
        clear hh_
        have hh_ := KK.out.kb
        obtain ⟨b0, g0⟩ := hh_.one 0 rfl
        obtain ⟨b1, g1⟩ := hh_.one 1 rfl
        clear hh_
        have hh_ := KJ
        obtain ⟨j0, i0⟩ := hh_.one 0 rfl
        obtain ⟨j1, i1⟩ := hh_.one 1 rfl
        clear hh_
        have hh_ := KM
        obtain ⟨m0, n0⟩ := hh_.one 0 rfl
        obtain ⟨m1, n1⟩ := hh_.one 1 rfl
        clear hh_
        go_wp2_with fail
        refine (LV.out _).mono ?_
        rintro e w22 ⟨rfl, hq⟩
        clear a0 a1 h0 h1 b0 b1 g0 g1 j0 j1 i0 i1 m0 m1 n0 n1
        replace KK := Lib.hid (KK.out.next hq)
        replace KJ := KJ.bel hq
        replace KM := KM.bel hq
        clear hq
        go_wp2
        go_ret
        exact ⟨rfl, KK.out.bel⟩
end Go.Proofs.Ytaijkngdelolgaa
