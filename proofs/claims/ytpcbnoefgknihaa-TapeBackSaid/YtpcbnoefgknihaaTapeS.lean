/- The document's Same: two lists of the same rows; walked. -/
import Derived.Test.YtpcbnoefgknihaaTapeE
import Derived.Test.YtpcbnoefgknihaaReg
namespace Go.Proofs.Ytpcbnoefgknihaa
open Go.ChangeShapes Go.WideShapes Go.ChangeAt Go.RowKit
set_option linter.unusedVariables false
set_option linter.unusedSimpArgs false
set_option maxRecDepth 100000 in
set_option maxHeartbeats 8000000 in
theorem rsame45 (a b : Option Addr) (A D : Nat → Option Addr) (C E : Nat → Nat) (Z : List (List Int)) (ca cb : Nat) (w : World) (h1 : GridIs .i64 w a A C Z) (h2 : GridIs .i64 w b D E Z) (hZ : Z.length ≤ maxLen) (hR : ∀ i, i < Z.length → (Z.getD i []).length ≤ maxLen) : Calls Try.prog 29 #[.slice a Z.length ca, .slice b Z.length cb] w fun e w' => e = .returned (.bool true) ∧ Below w.heap.size w w' := by
  have H1 := Lib.hid (fun u (k : Below w.heap.size w u) => h1.below k)
  have H2 := Lib.hid (fun u (k : Below w.heap.size w u) => h2.below k)
  have HR := Lib.hid hR
  have hZ' : (Z.length : Int) ≤ 9223372036854775807 := by unfold maxLen at hZ; omega
  obtain ⟨n, en⟩ : ∃ n, Z.length = n := ⟨_, rfl⟩
  have EN := Lib.hid en
  rw [en] at hZ' ⊢
  clear h1 h2 hZ en hR
  go_enter Try.func29, Try.ntmps29
  go_wp2_with fail
  go_loopw [5] (fun i v => ∃ k : Nat, k ≤ n ∧ i = .int .i64 (k : Int) ∧ Hid (Below w.heap.size w v)) (fun i _ => n - (intOf i).toNat)
  case atStart => exact ⟨0, by omega, rfl, Lib.hid (Below.refl _ _)⟩
  case round =>
    obtain ⟨k, hk, rfl, hb⟩ := hrel
    generalize wr = v at *
    by_cases hlt : k < n
    · have hkl : k < Z.length := by rw [EN.out]; exact hlt
      have j1 : (k : Int) < (n : Int) := by omega
      have j0 : 0 ≤ (k : Int) := by omega
      have s1 : IntKind.i64.wrap ((k : Int) + 1) = (k : Int) + 1 := by rw [IntKind.wrap_i64]; omega
      have CELL := Lib.hid (fun u (q : Below w.heap.size w u) => (⟨(H1.out u q).at hkl, (H2.out u q).at hkl, (H1.out u q).rows k hkl, (H2.out u q).rows k hkl⟩ : (∃ b off, a = some ⟨b, off, none⟩ ∧ b < u.heap.size ∧ u.cell? ⟨b, off + k, none⟩ = some (.slice (A k) (Z.getD k []).length (C k))) ∧ (∃ g off, b = some ⟨g, off, none⟩ ∧ g < u.heap.size ∧ u.cell? ⟨g, off + k, none⟩ = some (.slice (D k) (Z.getD k []).length (E k))) ∧ RowIs .i64 u (A k) (Z.getD k []) ∧ RowIs .i64 u (D k) (Z.getD k [])))
      have RL := HR.out k hkl
      generalize Z.getD k [] = R at *
      generalize A k = ak at *
      generalize D k = dk at *
      generalize C k = ck at *
      generalize E k = ek at *
      have hRL : (R.length : Int) ≤ 9223372036854775807 := by unfold maxLen at RL; omega
      obtain ⟨⟨b1, o1, ea, -, -⟩, ⟨b2, o2, eb, -, -⟩, -, -⟩ := CELL.out v hb.out
      subst ea eb
      have C1 := Lib.hid (fun u (q : Below w.heap.size w u) => (show u.cell? ⟨b1, o1 + k, none⟩ = some (.slice ak R.length ck) ∧ u.cell? ⟨b2, o2 + k, none⟩ = some (.slice dk R.length ek) from by
        obtain ⟨⟨g, o, e1, -, c1⟩, ⟨g2, p2, e2, -, c2⟩, -, -⟩ := CELL.out u q
        injection e1 with e1
        injection e1 with e3 e4
        injection e2 with e2
        injection e2 with e5 e6
        subst e3 e4 e5 e6
        exact ⟨c1, c2⟩))
      have RR := Lib.hid (fun u (q : Below w.heap.size w u) => (⟨(CELL.out u q).2.2.1, (CELL.out u q).2.2.2⟩ : RowIs .i64 u ak R ∧ RowIs .i64 u dk R))
      obtain ⟨m, em⟩ : ∃ m, R.length = m := ⟨_, rfl⟩
      have EM := Lib.hid em
      rw [em] at C1 hRL
      clear CELL hkl RL em
      obtain ⟨c1, c2⟩ := C1.out v hb.out
      go_wp2_with fail
      refine region_moves (fun u => u.cell? ⟨b1, o1 + k, none⟩ = some (.slice ak m ck) ∧ u.cell? ⟨b2, o2 + k, none⟩ = some (.slice dk m ek)) [] [(.free, 0), (.free, 1), (.free, 2), (.take, 3), (.free, 4), (.free, 5), (.free, 6), (.free, 7), (.take, 8), (.free, 9), (.free, 10)] _ (by kernel_rfl) (by kernel_rfl) (by kernel_rfl) (by kernel_rfl) (by decide) rfl (fun _ _ _ _ _ h => h) ?_
      simp only [List.filterMap_cons, List.filterMap_nil, List.getElem?_toArray, List.getElem?_cons_zero, List.getElem?_cons_succ, Option.map_some]
      iterate 3
        first
          | (refine mv_free ?_ (Or.inl ⟨by rfl, ?_⟩) (⟨c1, c2⟩) ?_
             rotate_left 1
             · intro u
               go_simp
               try simp only [d1]
               try simp only [d2]
               try simp only [d3]
               try simp only [d1]
               try simp only [d2]
               try simp only [d3]
               try with_reducible rfl
             simp only [Act.put, List.setIfInBounds_toArray, List.set_cons_zero, List.set_cons_succ])
          | (refine mv_free _ (Or.inr ⟨by rfl, rfl⟩) (⟨c1, c2⟩) ?_
             simp only [Act.put, List.setIfInBounds_toArray, List.set_cons_zero, List.set_cons_succ])
      iterate 1
        first
          | (refine mv_take ?_ (Or.inl ⟨by rfl, ?_⟩) (⟨c1, c2⟩) ?_
             rotate_left 1
             · intro u hu
               (try dsimp only at hu)
               go_simp
               try with_reducible rfl
             simp only [Act.put, List.setIfInBounds_toArray, List.set_cons_zero, List.set_cons_succ])
          | (refine mv_take _ (Or.inr ⟨by rfl, rfl⟩) (⟨c1, c2⟩) ?_
             simp only [Act.put, List.setIfInBounds_toArray, List.set_cons_zero, List.set_cons_succ])
      iterate 4
        first
          | (refine mv_free ?_ (Or.inl ⟨by rfl, ?_⟩) (⟨c1, c2⟩) ?_
             rotate_left 1
             · intro u
               go_simp
               try simp only [d1]
               try simp only [d2]
               try simp only [d3]
               try simp only [d1]
               try simp only [d2]
               try simp only [d3]
               try with_reducible rfl
             simp only [Act.put, List.setIfInBounds_toArray, List.set_cons_zero, List.set_cons_succ])
          | (refine mv_free _ (Or.inr ⟨by rfl, rfl⟩) (⟨c1, c2⟩) ?_
             simp only [Act.put, List.setIfInBounds_toArray, List.set_cons_zero, List.set_cons_succ])
      iterate 1
        first
          | (refine mv_take ?_ (Or.inl ⟨by rfl, ?_⟩) (⟨c1, c2⟩) ?_
             rotate_left 1
             · intro u hu
               (try dsimp only at hu)
               go_simp
               try with_reducible rfl
             simp only [Act.put, List.setIfInBounds_toArray, List.set_cons_zero, List.set_cons_succ])
          | (refine mv_take _ (Or.inr ⟨by rfl, rfl⟩) (⟨c1, c2⟩) ?_
             simp only [Act.put, List.setIfInBounds_toArray, List.set_cons_zero, List.set_cons_succ])
      iterate 2
        first
          | (refine mv_free ?_ (Or.inl ⟨by rfl, ?_⟩) (⟨c1, c2⟩) ?_
             rotate_left 1
             · intro u
               go_simp
               try simp only [d1]
               try simp only [d2]
               try simp only [d3]
               try simp only [d1]
               try simp only [d2]
               try simp only [d3]
               try with_reducible rfl
             simp only [Act.put, List.setIfInBounds_toArray, List.set_cons_zero, List.set_cons_succ])
          | (refine mv_free _ (Or.inr ⟨by rfl, rfl⟩) (⟨c1, c2⟩) ?_
             simp only [Act.put, List.setIfInBounds_toArray, List.set_cons_zero, List.set_cons_succ])
      refine mv_done ?_
      have hb := Lib.hid hb.out.drew
      clear c1 c2
      go_wp2_with fail
      go_loopw [6] (fun i u => ∃ j : Nat, j ≤ m ∧ i = .int .i64 (j : Int) ∧ Hid (Below w.heap.size w u)) (fun i _ => m - (intOf i).toNat)
      case atStart => exact ⟨0, by omega, rfl, hb⟩
      case round =>
        obtain ⟨j, hj, rfl, hb3⟩ := hrel
        generalize wr = v3 at *
        obtain ⟨c1, c2⟩ := C1.out v3 hb3.out
        by_cases hlj : j < m
        · have i1 : (j : Int) < (m : Int) := by omega
          have i0 : 0 ≤ (j : Int) := by omega
          have s2 : IntKind.i64.wrap ((j : Int) + 1) = (j : Int) + 1 := by rw [IntKind.wrap_i64]; omega
          obtain ⟨r1, r2⟩ := RR.out v3 hb3.out
          obtain ⟨b3, o3, e3, -, c3⟩ := r1.at (show j < R.length by rw [EM.out]; exact hlj)
          obtain ⟨b4, o4, e4, -, c4⟩ := r2.at (show j < R.length by rw [EM.out]; exact hlj)
          generalize R.getD j 0 = x at *
          subst e3 e4
          clear r1 r2
          have xx : (x == x) = true := by simp
          have xn : (x != x) = false := by simp
          go_wp2_with fail
          refine region_moves (fun u => (u.cell? ⟨b1, o1 + k, none⟩ = some (.slice (some ⟨b3, o3, none⟩) m ck) ∧ u.cell? ⟨b2, o2 + k, none⟩ = some (.slice (some ⟨b4, o4, none⟩) m ek)) ∧ u.cell? ⟨b3, o3 + j, none⟩ = some (.int .i64 x) ∧ u.cell? ⟨b4, o4 + j, none⟩ = some (.int .i64 x)) [] [(.free, 0), (.free, 1), (.free, 2), (.take, 3), (.free, 4), (.free, 5), (.take, 6), (.free, 7), (.free, 8), (.free, 9), (.take, 10), (.free, 11), (.free, 12), (.take, 13), (.free, 14)] _ (by kernel_rfl) (by kernel_rfl) (by kernel_rfl) (by kernel_rfl) (by decide) rfl (fun _ _ _ _ _ h => h) ?_
          simp only [List.filterMap_cons, List.filterMap_nil, List.getElem?_toArray, List.getElem?_cons_zero, List.getElem?_cons_succ, Option.map_some]
          iterate 3
            first
              | (refine mv_free ?_ (Or.inl ⟨by rfl, ?_⟩) (⟨⟨c1, c2⟩, c3, c4⟩) ?_
                 rotate_left 1
                 · intro u
                   go_simp
                   try simp only [d1]
                   try simp only [d2]
                   try simp only [d3]
                   try simp only [d1]
                   try simp only [d2]
                   try simp only [d3]
                   try with_reducible rfl
                 simp only [Act.put, List.setIfInBounds_toArray, List.set_cons_zero, List.set_cons_succ])
              | (refine mv_free _ (Or.inr ⟨by rfl, rfl⟩) (⟨⟨c1, c2⟩, c3, c4⟩) ?_
                 simp only [Act.put, List.setIfInBounds_toArray, List.set_cons_zero, List.set_cons_succ])
          iterate 1
            first
              | (refine mv_take ?_ (Or.inl ⟨by rfl, ?_⟩) (⟨⟨c1, c2⟩, c3, c4⟩) ?_
                 rotate_left 1
                 · intro u hu
                   (try dsimp only at hu)
                   go_simp
                   try with_reducible rfl
                 simp only [Act.put, List.setIfInBounds_toArray, List.set_cons_zero, List.set_cons_succ])
              | (refine mv_take _ (Or.inr ⟨by rfl, rfl⟩) (⟨⟨c1, c2⟩, c3, c4⟩) ?_
                 simp only [Act.put, List.setIfInBounds_toArray, List.set_cons_zero, List.set_cons_succ])
          iterate 2
            first
              | (refine mv_free ?_ (Or.inl ⟨by rfl, ?_⟩) (⟨⟨c1, c2⟩, c3, c4⟩) ?_
                 rotate_left 1
                 · intro u
                   go_simp
                   try simp only [d1]
                   try simp only [d2]
                   try simp only [d3]
                   try simp only [d1]
                   try simp only [d2]
                   try simp only [d3]
                   try with_reducible rfl
                 simp only [Act.put, List.setIfInBounds_toArray, List.set_cons_zero, List.set_cons_succ])
              | (refine mv_free _ (Or.inr ⟨by rfl, rfl⟩) (⟨⟨c1, c2⟩, c3, c4⟩) ?_
                 simp only [Act.put, List.setIfInBounds_toArray, List.set_cons_zero, List.set_cons_succ])
          iterate 1
            first
              | (refine mv_take ?_ (Or.inl ⟨by rfl, ?_⟩) (⟨⟨c1, c2⟩, c3, c4⟩) ?_
                 rotate_left 1
                 · intro u hu
                   (try dsimp only at hu)
                   go_simp
                   try with_reducible rfl
                 simp only [Act.put, List.setIfInBounds_toArray, List.set_cons_zero, List.set_cons_succ])
              | (refine mv_take _ (Or.inr ⟨by rfl, rfl⟩) (⟨⟨c1, c2⟩, c3, c4⟩) ?_
                 simp only [Act.put, List.setIfInBounds_toArray, List.set_cons_zero, List.set_cons_succ])
          iterate 3
            first
              | (refine mv_free ?_ (Or.inl ⟨by rfl, ?_⟩) (⟨⟨c1, c2⟩, c3, c4⟩) ?_
                 rotate_left 1
                 · intro u
                   go_simp
                   try simp only [d1]
                   try simp only [d2]
                   try simp only [d3]
                   try simp only [d1]
                   try simp only [d2]
                   try simp only [d3]
                   try with_reducible rfl
                 simp only [Act.put, List.setIfInBounds_toArray, List.set_cons_zero, List.set_cons_succ])
              | (refine mv_free _ (Or.inr ⟨by rfl, rfl⟩) (⟨⟨c1, c2⟩, c3, c4⟩) ?_
                 simp only [Act.put, List.setIfInBounds_toArray, List.set_cons_zero, List.set_cons_succ])
          iterate 1
            first
              | (refine mv_take ?_ (Or.inl ⟨by rfl, ?_⟩) (⟨⟨c1, c2⟩, c3, c4⟩) ?_
                 rotate_left 1
                 · intro u hu
                   (try dsimp only at hu)
                   go_simp
                   try with_reducible rfl
                 simp only [Act.put, List.setIfInBounds_toArray, List.set_cons_zero, List.set_cons_succ])
              | (refine mv_take _ (Or.inr ⟨by rfl, rfl⟩) (⟨⟨c1, c2⟩, c3, c4⟩) ?_
                 simp only [Act.put, List.setIfInBounds_toArray, List.set_cons_zero, List.set_cons_succ])
          iterate 2
            first
              | (refine mv_free ?_ (Or.inl ⟨by rfl, ?_⟩) (⟨⟨c1, c2⟩, c3, c4⟩) ?_
                 rotate_left 1
                 · intro u
                   go_simp
                   try simp only [d1]
                   try simp only [d2]
                   try simp only [d3]
                   try simp only [d1]
                   try simp only [d2]
                   try simp only [d3]
                   try with_reducible rfl
                 simp only [Act.put, List.setIfInBounds_toArray, List.set_cons_zero, List.set_cons_succ])
              | (refine mv_free _ (Or.inr ⟨by rfl, rfl⟩) (⟨⟨c1, c2⟩, c3, c4⟩) ?_
                 simp only [Act.put, List.setIfInBounds_toArray, List.set_cons_zero, List.set_cons_succ])
          iterate 1
            first
              | (refine mv_take ?_ (Or.inl ⟨by rfl, ?_⟩) (⟨⟨c1, c2⟩, c3, c4⟩) ?_
                 rotate_left 1
                 · intro u hu
                   (try dsimp only at hu)
                   go_simp
                   try with_reducible rfl
                 simp only [Act.put, List.setIfInBounds_toArray, List.set_cons_zero, List.set_cons_succ])
              | (refine mv_take _ (Or.inr ⟨by rfl, rfl⟩) (⟨⟨c1, c2⟩, c3, c4⟩) ?_
                 simp only [Act.put, List.setIfInBounds_toArray, List.set_cons_zero, List.set_cons_succ])
          iterate 1
            first
              | (refine mv_free ?_ (Or.inl ⟨by rfl, ?_⟩) (⟨⟨c1, c2⟩, c3, c4⟩) ?_
                 rotate_left 1
                 · intro u
                   go_simp
                   try simp only [d1]
                   try simp only [d2]
                   try simp only [d3]
                   try simp only [d1]
                   try simp only [d2]
                   try simp only [d3]
                   try with_reducible rfl
                 simp only [Act.put, List.setIfInBounds_toArray, List.set_cons_zero, List.set_cons_succ])
              | (refine mv_free _ (Or.inr ⟨by rfl, rfl⟩) (⟨⟨c1, c2⟩, c3, c4⟩) ?_
                 simp only [Act.put, List.setIfInBounds_toArray, List.set_cons_zero, List.set_cons_succ])
          refine mv_done ?_
          have hb4 := Lib.hid hb3.out.drew
          clear c1 c2 c3 c4 hb3
          go_wp2
          go_roundw
          case rel => exact ⟨j + 1, by omega, by first | rfl | go_num, hb4⟩
          case measure => simp [intOf]; omega
        · have i1 : ¬ (j : Int) < (m : Int) := by omega
          go_wp2
          go_roundw
          case rel => exact ⟨k + 1, by omega, by first | rfl | go_num, hb3⟩
          case measure => simp [intOf]; omega
    · have j1 : ¬ (k : Int) < (n : Int) := by omega
      go_wp2
      go_ret
      exact ⟨rfl, hb.out⟩
end Go.Proofs.Ytpcbnoefgknihaa
