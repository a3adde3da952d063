/- The law DiscCalls; walked. -/
import Derived.Test.YtaijkngdelolgaaDisc8
import Derived.Test.YtaijkngdelolgaaDisc6
namespace Go.Proofs.Ytaijkngdelolgaa
open Go.ChangeShapes Go.WideShapes Go.ChangeAt Go.RowKit
set_option linter.unusedVariables false
set_option linter.unusedSimpArgs false
theorem nmC_at (k : Nat) (hk : k < 19) : nmC[k]? = some (.string (nmB k)) := by
  obtain rfl | rfl | rfl | rfl | rfl | rfl | rfl | rfl | rfl | rfl | rfl | rfl | rfl | rfl | rfl | rfl | rfl | rfl | rfl : k = 0 ∨ k = 1 ∨ k = 2 ∨ k = 3 ∨ k = 4 ∨ k = 5 ∨ k = 6 ∨ k = 7 ∨ k = 8 ∨ k = 9 ∨ k = 10 ∨ k = 11 ∨ k = 12 ∨ k = 13 ∨ k = 14 ∨ k = 15 ∨ k = 16 ∨ k = 17 ∨ k = 18 := by omega
  all_goals rfl
def nmL : List ByteArray := (List.range 19).map nmB
theorem nm_inj_d : ((List.range 19).all fun i => (List.range 19).all fun j => i == j || (nmB i).data != (nmB j).data) = true := by decide +kernel
theorem nm_inj {i j : Nat} (hi : i < 19) (hj : j < 19) (h : nmB i = nmB j) : i = j := by
  have d := nm_inj_d
  rw [List.all_eq_true] at d
  have d2 := d i (by simpa using hi)
  rw [List.all_eq_true] at d2
  have d3 := d2 j (by simpa using hj)
  rw [h] at d3
  simpa using d3
theorem rw3 (w : World) (a b c : Int) (t : TypeId) : RowIs .i64 (w.alloc (.cells #[.int .i64 a, .int .i64 b, .int .i64 c] t)) (some ⟨w.heap.size, 0, none⟩) [a, b, c] := by
  refine .inr ⟨_, 0, rfl, by simp, fun i hi => ?_⟩
  match i, hi with
  | 0, _ => simp
  | 1, _ => simp
  | 2, _ => simp
/-- The objects of the law. -/
structure DcK (tb q3 q5 : Nat) (M : Nat → Bool) (l0 l1 l2 : Int) (w v : World) : Prop where
  t : v.heap[tb]? = some (.cells nmC 9 (0, 0))
  m : v.heap[q3]? = some (.cells (mkC M) 23 (0, 0))
  l : v.heap[q5]? = some (.cells #[.int .i64 l0, .int .i64 l1, .int .i64 l2] 34 (0, 0))
  bel : Below w.heap.size w v
theorem some_lt {v : World} {q : Nat} {x : Obj} (h : v.heap[q]? = some x) : q < v.heap.size := by
  rcases Nat.lt_or_ge q v.heap.size with k | k
  · exact k
  · rw [Array.getElem?_eq_none k] at h; cases h
theorem DcK.next {tb q3 q5 : Nat} {M : Nat → Bool} {l0 l1 l2 : Int} {w v v2 : World} (h : DcK tb q3 q5 M l0 l1 l2 w v) (k : Below v.heap.size v v2) : DcK tb q3 q5 M l0 l1 l2 w v2 :=
  ⟨(k.block _ (some_lt h.t)).trans h.t, (k.block _ (some_lt h.m)).trans h.m, (k.block _ (some_lt h.l)).trans h.l, h.bel.trans (k.mono h.bel.size)⟩
theorem DcK.drew {tb q3 q5 : Nat} {M : Nat → Bool} {l0 l1 l2 : Int} {w v : World} (h : DcK tb q3 q5 M l0 l1 l2 w v) : DcK tb q3 q5 M l0 l1 l2 w v.drew := ⟨h.t, h.m, h.l, h.bel.drew⟩
theorem dc_box (M : Nat → Bool) (l0 l1 l2 : Int) (w : World) : ∃ V, V = (w.alloc (.cells #[.bool (M 0), .bool (M 1), .bool (M 2), .bool (M 3), .bool (M 4), .bool (M 5), .bool (M 6), .bool (M 7), .bool (M 8), .bool (M 9), .bool (M 10), .bool (M 11), .bool (M 12), .bool (M 13), .bool (M 14), .bool (M 15), .bool (M 16), .bool (M 17), .bool (M 18)] 23)).alloc (.cells #[.int .i64 l0, .int .i64 l1, .int .i64 l2] 34) ∧ Below w.heap.size w V ∧ V.heap[w.heap.size]? = some (.cells (mkC M) 23 (0, 0)) ∧ V.heap[w.heap.size + 1]? = some (.cells #[.int .i64 l0, .int .i64 l1, .int .i64 l2] 34 (0, 0)) := by
  obtain ⟨V1, e1⟩ : ∃ V1, V1 = w.alloc (.cells (mkC M) 23) := ⟨_, rfl⟩
  have b1 : Below w.heap.size w V1 := by rw [e1]; exact (by repeat (first | exact Below.refl _ _ | assumption | apply Below.drew | apply below_drewN | (refine Below.alloc ?_ (by first | exact Nat.le_refl _ | omega | (simp <;> omega)) _) | (refine Below.setCell ?_ (by first | exact Nat.le_refl _ | omega | (simp <;> omega)) _)))
  have g1 : V1.heap[w.heap.size]? = some (.cells (mkC M) 23 (0, 0)) := by rw [e1]; exact alloc_get _ _
  have z1 : V1.heap.size = w.heap.size + 1 := by rw [e1]; simp
  have b2 : Below V1.heap.size V1 (V1.alloc (.cells #[.int .i64 l0, .int .i64 l1, .int .i64 l2] 34)) := (by repeat (first | exact Below.refl _ _ | assumption | apply Below.drew | apply below_drewN | (refine Below.alloc ?_ (by first | exact Nat.le_refl _ | omega | (simp <;> omega)) _) | (refine Below.setCell ?_ (by first | exact Nat.le_refl _ | omega | (simp <;> omega)) _)))
  refine ⟨V1.alloc (.cells #[.int .i64 l0, .int .i64 l1, .int .i64 l2] 34), by rw [e1]; rfl, b1.trans (b2.mono (by omega)), (b2.block w.heap.size (by omega)).trans g1, ?_⟩
  rw [← z1]
  exact alloc_get _ _
set_option maxRecDepth 100000 in
set_option maxHeartbeats 8000000 in
theorem law_DiscCalls0 (M : Nat → Bool) (s : ByteArray) (l0 l1 l2 : Int) (w : World) (F : Nat → Int) (W : Nat → Bool) (hF : F 0 = 0) (hW : W 0 = false) (hS : ∀ j, j < 19 → (nmB j = s → F (j + 1) = (j : Int) ∧ W (j + 1) = true) ∧ (nmB j ≠ s → F (j + 1) = F j ∧ W (j + 1) = W j)) (FD : ∀ u, Calls Try.prog 15 #[.string s] u fun e w' => e = .returned (.tuple #[.int .i64 (F 19), .bool (W 19)]) ∧ Below u.heap.size u w') : Calls Try.prog 5 #[.agg #[.bool (M 0), .bool (M 1), .bool (M 2), .bool (M 3), .bool (M 4), .bool (M 5), .bool (M 6), .bool (M 7), .bool (M 8), .bool (M 9), .bool (M 10), .bool (M 11), .bool (M 12), .bool (M 13), .bool (M 14), .bool (M 15), .bool (M 16), .bool (M 17), .bool (M 18)], .string s, .agg #[.int .i64 l0, .int .i64 l1, .int .i64 l2]] w fun e w' => e = .returned (.bool true) ∧ Below w.heap.size w w' := by
  obtain ⟨V, eV, hb0, g3, g5⟩ := dc_box M l0 l1 l2 w
  have LV := Lib.hid (fun u => lives29 u)
  have TB := Lib.hid (fun u => dtable u)
  have NM := Lib.hid (fun k hk u => dname_at k hk u)
  have NN := Lib.hid (fun i hi u => dname_no i hi u)
  have NS := Lib.hid (fun u => dnamesof M u)
  have AN := Lib.hid (fun a cap L u hr hl => dany M a cap L u hr hl)
  replace FD := Lib.hid FD
  replace hS := Lib.hid hS
  replace hb0 := Lib.hid hb0
  obtain ⟨q3, e3⟩ : ∃ z, z = w.heap.size := ⟨_, rfl⟩
  obtain ⟨q5, e5⟩ : ∃ z, z = w.heap.size + 1 := ⟨_, rfl⟩
  go_enter Try.func5, Try.ntmps5
  go_upto_region 1 with (fail)
  rw [← eV]
  clear eV
  rw [← e3] at g3
  rw [← e5] at g5
  rw [← e5, ← e3]
  replace e3 := Lib.hid e3
  replace e5 := Lib.hid e5
  go_wp2_with fail
  refine (TB.out _).mono ?_
  rintro e w1 ⟨rfl, hq, gt⟩
  have l3 := some_lt g3
  have l5 := some_lt g5
  obtain ⟨tb, etb⟩ : ∃ z, z = V.heap.size := ⟨_, rfl⟩
  rw [← etb] at gt ⊢
  have KK := Lib.hid (show DcK tb q3 q5 M l0 l1 l2 w w1 from ⟨gt, (hq.block _ l3).trans g3, (hq.block _ l5).trans g5, hb0.out.trans (hq.mono hb0.out.size)⟩)
  clear hb0 hq gt g3 g5 l3 l5 etb TB
  go_wp2_with fail
  go_loopw [8, 9, 10] (fun a b i v => ∃ k : Nat, k ≤ 19 ∧ a = .int .i64 (F k) ∧ b = .bool (W k) ∧ i = .int .i64 (k : Int) ∧ v = w1) (fun _ _ i _ => 19 - (intOf i).toNat)
  case atStart => exact ⟨0, by omega, by rw [hF], by rw [hW], rfl, rfl⟩
  case round =>
    obtain ⟨k, hk, rfl, rfl, rfl, rfl⟩ := hrel
    by_cases hlt : k < 19
    · have i0 : 0 ≤ (k : Int) := by omega
      have i1 : (k : Int) < 19 := by omega
      have i2 : IntKind.i64.wrap ((k : Int) + 1) = (k : Int) + 1 := by rw [IntKind.wrap_i64]; omega
      have c0 := (cell_of_row _ tb k _ _ _ KK.out.t).trans (nmC_at k hlt)
      obtain ⟨hy, hn⟩ := hS.out k hlt
      by_cases he : nmB k = s
      · obtain ⟨x1, x2⟩ := hy he
        rw [he] at c0
        clear hy hn he
        replace x1 := Lib.hid x1
        replace x2 := Lib.hid x2
        go_wp2
        go_roundw
        case rel => exact ⟨k + 1, by omega, by rw [x1.out], by rw [x2.out], by first | rfl | go_num, by first | rfl | trivial⟩
        case measure => simp [intOf] <;> omega
      · obtain ⟨x1, x2⟩ := hn he
        generalize nmB k = z at *
        have h2 : (z.toList == s.toList) = false := by
          rw [beq_eq_false_iff_ne]
          exact fun e => he (bytes_inj e)
        clear hy hn he
        replace x1 := Lib.hid x1
        replace x2 := Lib.hid x2
        go_wp2
        go_roundw
        case rel => exact ⟨k + 1, by omega, by rw [x1.out], by rw [x2.out], by first | rfl | go_num, by first | rfl | trivial⟩
        case measure => simp [intOf] <;> omega
    · obtain rfl : k = 19 := by omega
      clear hlt hk hS hF hW
      generalize F 19 = F9 at *
      generalize W 19 = W9 at *
      go_wp2_with fail
      refine (FD.out _).mono ?_
      rintro e w2 ⟨rfl, hq⟩
      replace KK := Lib.hid (KK.out.next hq)
      clear hq FD
      have g3 := KK.out.m
      go_wp2_with (refine wpList_load_row rfl 23 _ rfl q3 rfl 23 _ (0, 0) _ g3 Try.underlying23 rfl (by kernel_rfl) ?_)
      refine (NS.out _).mono ?_
      rintro e w3 ⟨x, rfl, hO, hq⟩
      replace KK := Lib.hid (KK.out.next hq)
      generalize w2.heap.size = B at *
      clear hq g3 NS
      replace hO := Lib.hid hO
      have GET := Lib.hid (fun k (h : M k = true) (hk : k < 19) => seN_get M h 19 hk)
      have S0 := Lib.hid (show (seN M 0).length = 0 from rfl)
      have SS := Lib.hid (fun k => show seN M (k + 1) = if M k then seN M k ++ [nmB k] else seN M k from rfl)
      have SL := Lib.hid (seN_len M 19)
      obtain ⟨G, eG⟩ : ∃ G, G = seN M := ⟨_, rfl⟩
      replace GET := Lib.hid (show ∀ k, M k = true → k < 19 → (G 19)[(G k).length]? = some (nmB k) ∧ (G k).length < (G 19).length from by rw [eG]; exact GET.out)
      replace S0 := Lib.hid (show (G 0).length = 0 from by rw [eG]; rfl)
      replace SS := Lib.hid (show ∀ k, G (k + 1) = if M k then G k ++ [nmB k] else G k from by rw [eG]; exact SS.out)
      replace SL := Lib.hid (show (G 19).length ≤ 19 from by rw [eG]; exact SL.out)
      rw [← eG] at hO
      clear eG
      go_wp2_with fail
      go_loopw [14, 15] (fun j i v => ∃ k : Nat, k ≤ 19 ∧ j = .int .i64 ((G k).length : Int) ∧ i = .int .i64 (k : Int) ∧ Hid (DcK tb q3 q5 M l0 l1 l2 w v) ∧ Hid (Osr B x (G 19) v)) (fun _ i _ => 19 - (intOf i).toNat)
      case atStart => exact ⟨0, by omega, by rw [S0.out]; rfl, rfl, KK, hO⟩
      case round =>
        clear KK hO
        obtain ⟨k, hk, rfl, rfl, KK, hO⟩ := hrel
        by_cases hlt : k < 19
        · have i0 : 0 ≤ (k : Int) := by omega
          have i1 : (k : Int) < 19 := by omega
          have i2 : IntKind.i64.wrap ((k : Int) + 1) = (k : Int) + 1 := by rw [IntKind.wrap_i64]; omega
          have c0 := (cell_of_row _ tb k _ _ _ KK.out.t).trans (nmC_at k hlt)
          have NK := Lib.hid (fun u => NM.out k hlt u)
          have ss := SS.out k
          have ge := Lib.hid (fun h => GET.out k h hlt)
          have gl := SL.out
          obtain ⟨z, ez⟩ : ∃ z, z = nmB k := ⟨_, rfl⟩
          rw [← ez] at c0 ss
          replace NK := Lib.hid (show ∀ u, Calls Try.prog 17 #[.int .i64 (k : Int)] u fun e w' => e = .returned (.string z) ∧ Below u.heap.size u w' from by rw [ez]; exact NK.out)
          replace ge := Lib.hid (show M k = true → (G 19)[(G k).length]? = some z ∧ (G k).length < (G 19).length from by rw [ez]; exact ge.out)
          have cz := Lib.hid (show nmC[k]? = some (.string z) from by rw [ez]; exact nmC_at k hlt)
          clear ez
          replace ss := Lib.hid ss
          generalize G 19 = L at *
          go_wp2_with fail
          refine region_moves (fun u => u.cell? ⟨tb, k, none⟩ = some (.string z)) [] [(.free, 0), (.free, 2), (.free, 3), (.free, 4), (.take, 5), (.step, 1), (.free, 6)] _ (by kernel_rfl) (by kernel_rfl) (by kernel_rfl) (by kernel_rfl) (by decide) rfl (fun _ _ _ _ _ h => h) ?_
          simp only [List.filterMap_cons, List.filterMap_nil, List.getElem?_toArray, List.getElem?_cons_zero, List.getElem?_cons_succ, Option.map_some]
          iterate 4
            first
              | (refine mv_free ?_ (Or.inl ⟨by rfl, ?_⟩) (c0) ?_
                 rotate_left 1
                 · intro u
                   go_simp
                   try simp only [d1]
                   try simp only [d2]
                   try with_reducible rfl
                 simp only [Act.put, List.setIfInBounds_toArray, List.set_cons_zero, List.set_cons_succ])
              | (refine mv_free _ (Or.inr ⟨by rfl, rfl⟩) (c0) ?_
                 simp only [Act.put, List.setIfInBounds_toArray, List.set_cons_zero, List.set_cons_succ])
          iterate 1
            first
              | (refine mv_take ?_ (Or.inl ⟨by rfl, ?_⟩) (c0) ?_
                 rotate_left 1
                 · intro u hu
                   (try dsimp only at hu)
                   go_simp
                   try with_reducible rfl
                 simp only [Act.put, List.setIfInBounds_toArray, List.set_cons_zero, List.set_cons_succ])
              | (refine mv_take _ (Or.inr ⟨by rfl, rfl⟩) (c0) ?_
                 simp only [Act.put, List.setIfInBounds_toArray, List.set_cons_zero, List.set_cons_succ])
          refine mv_step (fun K hK => ?_)
          go_simp
          refine (NK.out _).mono ?_
          rintro e w5 ⟨rfl, hq⟩
          replace KK := Lib.hid (KK.out.drew.next hq)
          replace hO := Lib.hid ((show Osr B x L wr.drew from hO.out).bel hq)
          clear hq c0
          have c0 : w5.cell? ⟨tb, k, none⟩ = some (.string z) := by rw [cell_of_row w5 tb k _ _ _ KK.out.t]; exact cz.out
          go_wp2_with fail
          refine hK.out _ _ _ (fun u hu => hu) (c0) ?_
          clear hK K
          iterate 1
            first
              | (refine mv_free ?_ (Or.inl ⟨by rfl, ?_⟩) (c0) ?_
                 rotate_left 1
                 · intro u
                   go_simp
                   try simp only [d1]
                   try simp only [d2]
                   try with_reducible rfl
                 simp only [Act.put, List.setIfInBounds_toArray, List.set_cons_zero, List.set_cons_succ])
              | (refine mv_free _ (Or.inr ⟨by rfl, rfl⟩) (c0) ?_
                 simp only [Act.put, List.setIfInBounds_toArray, List.set_cons_zero, List.set_cons_succ])
          refine mv_done ?_
          have c1 := (cell_of_row w5 q3 k _ _ _ KK.out.m).trans (mkC_at M k hlt)
          cases hm : M k
          · rw [hm] at c1 ss
            have s2 := Lib.hid (show G (k + 1) = G k from ss.out)
            clear ss ge
            go_wp2
            go_roundw
            case rel => exact ⟨k + 1, by omega, by rw [s2.out], by first | rfl | go_num, KK, hO⟩
            case measure => simp [intOf] <;> omega
          · rw [hm] at c1 ss
            have s2 := Lib.hid (show (G (k + 1)).length = (G k).length + 1 from by rw [show G (k + 1) = G k ++ [z] from ss.out]; simp)
            obtain ⟨g1, g2⟩ := ge.out hm
            clear ss ge hm
            rcases hO.out with ⟨rfl, e⟩ | ⟨g, off, cap, cur, rfl, hB, hg, hc1, hc2, hx⟩
            · rw [e] at g2; simp at g2
            · have c2 : w5.cell? ⟨g, off + (G k).length, none⟩ = some (.string z) := by
                rw [cell_of_row w5 g (off + (G k).length) _ _ _ hg, hx _ g2]
                simp [List.getD, g1]
              clear hx hc1 hc2 hB hg g1
              generalize (G k).length = n at *
              have n0 : 0 ≤ (n : Int) := by omega
              have n1 : (n : Int) < (L.length : Int) := by omega
              have n2 : ¬ (L.length : Int) ≤ (n : Int) := by omega
              have n4 : ¬ L.length ≤ n := by omega
              have n3 : IntKind.i64.wrap ((n : Int) + 1) = (n : Int) + 1 := by rw [IntKind.wrap_i64]; omega
              go_wp2_with fail
              refine region_still [] [(.free, 0), (.free, 1), (.free, 2), (.free, 3), (.free, 4), (.free, 5), (.free, 6), (.free, 7), (.take, 8), (.free, 9), (.free, 10), (.free, 11), (.take, 12), (.free, 13), (.free, 14)] _ (by kernel_rfl) (by kernel_rfl) (by kernel_rfl) (by kernel_rfl) (by decide) rfl (fun _ _ _ _ _ h => h) ?_
              simp only [List.filterMap_cons, List.filterMap_nil, List.getElem?_toArray, List.getElem?_cons_zero, List.getElem?_cons_succ, Option.map_some]
              iterate 8
                first
                  | (refine mv_free ?_ (Or.inl ⟨by rfl, ?_⟩) (rfl) ?_
                     rotate_left 1
                     · intro u
                       go_simp
                       try simp only [d1]
                       try simp only [d2]
                       try with_reducible rfl
                     simp only [Act.put, List.setIfInBounds_toArray, List.set_cons_zero, List.set_cons_succ])
                  | (refine mv_free _ (Or.inr ⟨by rfl, rfl⟩) (rfl) ?_
                     simp only [Act.put, List.setIfInBounds_toArray, List.set_cons_zero, List.set_cons_succ])
              iterate 1
                first
                  | (refine mv_take ?_ (Or.inl ⟨by rfl, ?_⟩) (rfl) ?_
                     rotate_left 1
                     · intro u hu
                       (try dsimp only at hu)
                       go_simp
                       try with_reducible rfl
                     simp only [Act.put, List.setIfInBounds_toArray, List.set_cons_zero, List.set_cons_succ])
                  | (refine mv_take _ (Or.inr ⟨by rfl, rfl⟩) (rfl) ?_
                     simp only [Act.put, List.setIfInBounds_toArray, List.set_cons_zero, List.set_cons_succ])
              iterate 3
                first
                  | (refine mv_free ?_ (Or.inl ⟨by rfl, ?_⟩) (rfl) ?_
                     rotate_left 1
                     · intro u
                       go_simp
                       try simp only [d1]
                       try simp only [d2]
                       try with_reducible rfl
                     simp only [Act.put, List.setIfInBounds_toArray, List.set_cons_zero, List.set_cons_succ])
                  | (refine mv_free _ (Or.inr ⟨by rfl, rfl⟩) (rfl) ?_
                     simp only [Act.put, List.setIfInBounds_toArray, List.set_cons_zero, List.set_cons_succ])
              iterate 1
                first
                  | (refine mv_take ?_ (Or.inl ⟨by rfl, ?_⟩) (rfl) ?_
                     rotate_left 1
                     · intro u hu
                       (try dsimp only at hu)
                       go_simp
                       try with_reducible rfl
                     simp only [Act.put, List.setIfInBounds_toArray, List.set_cons_zero, List.set_cons_succ])
                  | (refine mv_take _ (Or.inr ⟨by rfl, rfl⟩) (rfl) ?_
                     simp only [Act.put, List.setIfInBounds_toArray, List.set_cons_zero, List.set_cons_succ])
              iterate 2
                first
                  | (refine mv_free ?_ (Or.inl ⟨by rfl, ?_⟩) (rfl) ?_
                     rotate_left 1
                     · intro u
                       go_simp
                       try simp only [d1]
                       try simp only [d2]
                       try with_reducible rfl
                     simp only [Act.put, List.setIfInBounds_toArray, List.set_cons_zero, List.set_cons_succ])
                  | (refine mv_free _ (Or.inr ⟨by rfl, rfl⟩) (rfl) ?_
                     simp only [Act.put, List.setIfInBounds_toArray, List.set_cons_zero, List.set_cons_succ])
              refine mv_done ?_
              go_wp2
              go_roundw
              case rel => exact ⟨k + 1, by omega, by rw [s2.out]; first | rfl | go_num | simp, by first | rfl | go_num, by first | exact KK | exact Lib.hid KK.out.drew, by first | exact hO | exact Lib.hid (show Osr _ _ _ _ from hO.out)⟩
              case measure => simp [intOf] <;> omega
        · obtain rfl : k = 19 := by omega
          clear hlt hk S0 SS GET NM
          rw [show ((19 : Nat) : Int) = 19 from rfl]
          generalize G 19 = L at *
          have b3 := Lib.hid (fun k (hk : k < 3) => anB_step (M := M) (L := [l0, l1, l2]) (k := k) hk)
          go_wp2_with fail
          go_loopw [16, 17] (fun a i v => ∃ k : Nat, k ≤ 3 ∧ a = .bool (anB M ([l0, l1, l2].take k)) ∧ i = .int .i64 (k : Int) ∧ Hid (DcK tb q3 q5 M l0 l1 l2 w v) ∧ Hid (Osr B x L v)) (fun _ i _ => 3 - (intOf i).toNat)
          case atStart => exact ⟨0, by omega, rfl, rfl, KK, hO⟩
          case round =>
            clear KK hO
            obtain ⟨k, hk, rfl, rfl, KK, hO⟩ := hrel
            by_cases hlt : k < 3
            · have i0 : 0 ≤ (k : Int) := by omega
              have i1 : (k : Int) < 3 := by omega
              have i2 : IntKind.i64.wrap ((k : Int) + 1) = (k : Int) + 1 := by rw [IntKind.wrap_i64]; omega
              have st := b3.out k hlt
              have c0 : wr.cell? ⟨q5, k, none⟩ = some (.int .i64 ([l0, l1, l2].getD k 0)) := by
                rw [cell_of_row wr q5 k _ _ _ KK.out.l]
                rcases (show k = 0 ∨ k = 1 ∨ k = 2 from by omega) with rfl | rfl | rfl <;> rfl
              generalize [l0, l1, l2].getD k 0 = y at *
              generalize anB M ([l0, l1, l2].take k) = ib at *
              obtain ⟨jb, ejb⟩ : ∃ z, z = anB M ([l0, l1, l2].take (k + 1)) := ⟨_, rfl⟩
              rw [← ejb] at st
              replace ejb := Lib.hid ejb
              by_cases hy : 0 ≤ y ∧ y < 19
              · obtain ⟨h0, h1⟩ := hy
                obtain ⟨n, rfl⟩ := Int.eq_ofNat_of_zero_le h0
                have c1 := (cell_of_row _ q3 n _ _ _ KK.out.m).trans (mkC_at M n (by omega))
                rw [show ((n : Nat) : Int).toNat = n by omega, decide_eq_true h0, decide_eq_true h1] at st
                generalize M n = mb at c1 st
                cases ib
                · have s2 := Lib.hid (show jb = mb by rw [st]; simp)
                  clear st
                  go_wp2
                  go_roundw
                  case rel => exact ⟨k + 1, by omega, by rw [← ejb.out, s2.out], by first | rfl | go_num, KK, hO⟩
                  case measure => simp [intOf] <;> omega
                · have s2 := Lib.hid (show jb = true by rw [st]; simp)
                  clear st
                  go_wp2
                  go_roundw
                  case rel => exact ⟨k + 1, by omega, by rw [← ejb.out, s2.out], by first | rfl | go_num, KK, hO⟩
                  case measure => simp [intOf] <;> omega
              · have s2 := Lib.hid (show jb = ib by
                  rw [st]
                  rcases (show y < 0 ∨ 19 ≤ y from by omega) with h | h
                  · simp [show ¬ 0 ≤ y by omega]
                  · simp [show ¬ y < 19 by omega])
                clear st
                have NY := Lib.hid (fun u => NN.out y hy u)
                rcases (show y < 0 ∨ (0 ≤ y ∧ 19 ≤ y) from by omega) with h | ⟨h, h9⟩
                · have h2 : ¬ 0 ≤ y := by omega
                  go_wp2_with fail
                  refine (NY.out _).mono ?_
                  rintro e w6 ⟨rfl, hq⟩
                  replace KK := Lib.hid (KK.out.next hq)
                  replace hO := Lib.hid (hO.out.bel hq)
                  clear hq c0
                  go_wp2
                  go_roundw
                  case rel => exact ⟨k + 1, by omega, by rw [← ejb.out, s2.out], by first | rfl | go_num, KK, hO⟩
                  case measure => simp [intOf] <;> omega
                · have h2 : ¬ y < 19 := by omega
                  go_wp2_with fail
                  refine (NY.out _).mono ?_
                  rintro e w6 ⟨rfl, hq⟩
                  replace KK := Lib.hid (KK.out.next hq)
                  replace hO := Lib.hid (hO.out.bel hq)
                  clear hq c0
                  go_wp2
                  go_roundw
                  case rel => exact ⟨k + 1, by omega, by rw [← ejb.out, s2.out], by first | rfl | go_num, KK, hO⟩
                  case measure => simp [intOf] <;> omega
            · obtain rfl : k = 3 := by omega
              rw [show [l0, l1, l2].take 3 = [l0, l1, l2] from rfl]
              have QC : ∀ j z, (mkC M)[j]? = some z → wr.cell? ⟨q3, 0 + j, none⟩ = some z := fun j z h => by rw [Nat.zero_add]; exact (cell_of_row wr q3 j _ _ _ KK.out.m).trans h
              have d0 : wr.cell? ⟨q5, 0, none⟩ = some (.int .i64 l0) := by rw [cell_of_row wr q5 0 _ _ _ KK.out.l]; rfl
              have d1 : wr.cell? ⟨q5, 1, none⟩ = some (.int .i64 l1) := by rw [cell_of_row wr q5 1 _ _ _ KK.out.l]; rfl
              have d2 : wr.cell? ⟨q5, 2, none⟩ = some (.int .i64 l2) := by rw [cell_of_row wr q5 2 _ _ _ KK.out.l]; rfl
              have A1 := Lib.hid (fun t => AN.out (some ⟨wr.heap.size, 0, none⟩) 3 [l0, l1, l2] (wr.alloc (.cells #[.int .i64 l0, .int .i64 l1, .int .i64 l2] t)) (rw3 wr l0 l1 l2 t) (by unfold maxLen; simp))
              have A2 := Lib.hid (fun u => AN.out none 0 [] u (.inl rfl) (by unfold maxLen; simp))
              have bA := Lib.hid (fun t => show Below wr.heap.size wr (wr.alloc (.cells #[.int .i64 l0, .int .i64 l1, .int .i64 l2] t)) from (by repeat (first | exact Below.refl _ _ | assumption | apply Below.drew | apply below_drewN | (refine Below.alloc ?_ (by first | exact Nat.le_refl _ | omega | (simp <;> omega)) _) | (refine Below.setCell ?_ (by first | exact Nat.le_refl _ | omega | (simp <;> omega)) _))))
              generalize anB M [l0, l1, l2] = ib at *
              clear b3 NN hlt hk
              rcases hO.out with ⟨rfl, e⟩ | ⟨g, off, cap, cur, rfl, -, -, -, -, -⟩
              · subst e
                go_wp2_with (refine wpList_load_part (by rfl) 23 _ rfl q3 0 rfl (mkC M) _ QC Try.underlying23 rfl (by kernel_rfl) ?_)
                refine ((A1.out _).mono ?_)
                rintro e w7 ⟨rfl, hq⟩
                have KK2 := Lib.hid (KK.out.next ((bA.out _).trans (hq.mono (bA.out _).size)))
                clear hq d0 d1 d2 QC
                have QC : ∀ j z, (mkC M)[j]? = some z → w7.cell? ⟨q3, 0 + j, none⟩ = some z := fun j z h => by rw [Nat.zero_add]; exact (cell_of_row w7 q3 j _ _ _ KK2.out.m).trans h
                go_wp2_with (refine wpList_load_part (by rfl) 23 _ rfl q3 0 rfl (mkC M) _ QC Try.underlying23 rfl (by kernel_rfl) ?_)
                refine ((A2.out _).mono ?_)
                rintro e w8 ⟨rfl, hq⟩
                replace KK2 := Lib.hid (KK2.out.next hq)
                rw [show anB M [] = false from rfl]
                clear hq QC
                go_wp2_with fail
                refine (LV.out _).mono ?_
                rintro e w9 ⟨rfl, hq⟩
                replace KK2 := Lib.hid (KK2.out.next hq)
                go_wp2
                go_ret
                exact ⟨rfl, KK2.out.bel⟩
              · go_wp2_with (refine wpList_load_part (by rfl) 23 _ rfl q3 0 rfl (mkC M) _ QC Try.underlying23 rfl (by kernel_rfl) ?_)
                refine ((A1.out _).mono ?_)
                rintro e w7 ⟨rfl, hq⟩
                have KK2 := Lib.hid (KK.out.next ((bA.out _).trans (hq.mono (bA.out _).size)))
                clear hq d0 d1 d2 QC
                have QC : ∀ j z, (mkC M)[j]? = some z → w7.cell? ⟨q3, 0 + j, none⟩ = some z := fun j z h => by rw [Nat.zero_add]; exact (cell_of_row w7 q3 j _ _ _ KK2.out.m).trans h
                go_wp2_with (refine wpList_load_part (by rfl) 23 _ rfl q3 0 rfl (mkC M) _ QC Try.underlying23 rfl (by kernel_rfl) ?_)
                refine ((A2.out _).mono ?_)
                rintro e w8 ⟨rfl, hq⟩
                replace KK2 := Lib.hid (KK2.out.next hq)
                rw [show anB M [] = false from rfl]
                clear hq QC
                go_wp2_with fail
                refine (LV.out _).mono ?_
                rintro e w9 ⟨rfl, hq⟩
                replace KK2 := Lib.hid (KK2.out.next hq)
                go_wp2
                go_ret
                exact ⟨rfl, KK2.out.bel⟩
theorem law_DiscCalls (M : Nat → Bool) (s : ByteArray) (l0 l1 l2 : Int) (w : World) : Calls Try.prog 5 #[.agg #[.bool (M 0), .bool (M 1), .bool (M 2), .bool (M 3), .bool (M 4), .bool (M 5), .bool (M 6), .bool (M 7), .bool (M 8), .bool (M 9), .bool (M 10), .bool (M 11), .bool (M 12), .bool (M 13), .bool (M 14), .bool (M 15), .bool (M 16), .bool (M 17), .bool (M 18)], .string s, .agg #[.int .i64 l0, .int .i64 l1, .int .i64 l2]] w fun e w' => e = .returned (.bool true) ∧ Below w.heap.size w w' := by
  by_cases h : ∃ k, k < 19 ∧ nmB k = s
  · obtain ⟨k, hk, hs⟩ := h
    have hn : ∀ j, j < 19 → nmB j = s → j = k := fun j hj e => nm_inj hj hk (e.trans hs.symm)
    refine law_DiscCalls0 M s l0 l1 l2 w (fun j => if k < j then (k : Int) else 0) (fun j => decide (k < j)) (by simp) (by simp) (fun j hj => ⟨fun e => ?_, fun e => ?_⟩) (fun u => ?_)
    · have e2 := hn j hj e
      subst e2
      exact ⟨if_pos (by omega), decide_eq_true (by omega)⟩
    · have hne : j ≠ k := fun x => e (by rw [x]; exact hs)
      by_cases q : k < j
      · exact ⟨by show (if k < j + 1 then (k : Int) else 0) = (if k < j then (k : Int) else 0); rw [if_pos (by omega), if_pos q], by show decide (k < j + 1) = decide (k < j); rw [decide_eq_true (by omega), decide_eq_true q]⟩
      · exact ⟨by show (if k < j + 1 then (k : Int) else 0) = (if k < j then (k : Int) else 0); rw [if_neg (by omega), if_neg q], by show decide (k < j + 1) = decide (k < j); rw [decide_eq_false (by omega), decide_eq_false q]⟩
    · have t := dfind_at k s hk hs (fun j hj e => by have := hn j (by omega) e; omega) u
      show Calls Try.prog 15 #[.string s] u fun e w' => e = .returned (.tuple #[.int .i64 (if k < 19 then (k : Int) else 0), .bool (decide (k < 19))]) ∧ Below u.heap.size u w'
      rw [if_pos hk, decide_eq_true hk]
      exact t
  · refine law_DiscCalls0 M s l0 l1 l2 w (fun _ => 0) (fun _ => false) rfl rfl (fun j hj => ⟨fun e => absurd ⟨j, hj, e⟩ h, fun e => ⟨rfl, rfl⟩⟩) (fun u => ?_)
    exact dfind_none s (fun j hj e => h ⟨j, hj, e⟩) u
end Go.Proofs.Ytaijkngdelolgaa
