/- The law's right and due; Load; walked. -/
import Derived.Test.YtcpmdgbogdikiaaBus2
namespace Go.Proofs.Ytcpmdgbogdikiaa
open Go.ChangeShapes Go.WideShapes Go.ChangeAt Go.RowKit
set_option linter.unusedVariables false
set_option linter.unusedSimpArgs false
set_option maxRecDepth 100000 in
set_option maxHeartbeats 8000000 in
theorem lright (a : Option Addr) (cap n : Nat) (N P F : Nat → Int) (w : World) (h : Pl w a n N P F) (hn : n ≤ 1000) : Calls Try.prog 12 #[.slice a n cap] w fun e w' => e = .returned (.bool (rtB n N P F)) ∧ Below w.heap.size w w' := by
  have HH := Lib.hid (fun u (k : Below w.heap.size w u) => h.below k)
  have hn' : (n : Int) ≤ 1000 := by omega
  clear h hn
  obtain ⟨R, eR⟩ : ∃ R, rtB n N P F = R := ⟨_, rfl⟩
  rw [eR]
  have ER := Lib.hid eR
  clear eR
  go_enter Try.func12, Try.ntmps12
  go_wp2_with fail
  go_loopw [3] (fun i v => ∃ k : Nat, k ≤ n ∧ i = .int .i64 (k : Int) ∧ Hid (Below w.heap.size w v) ∧ Hid (RtP n N P F k)) (fun i _ => n - (intOf i).toNat)
  case atStart => exact ⟨0, by omega, rfl, Lib.hid (Below.refl _ _), Lib.hid (fun j hj => by omega)⟩
  case round =>
    obtain ⟨k, hk, rfl, hb, hP⟩ := hrel
    generalize wr = v at *
    by_cases hlt : k < n
    · obtain ⟨b, off, ea, hbb, k0, k1, k2⟩ := (HH.out v hb.out).at hlt
      subst ea
      have j1 : (k : Int) < (n : Int) := by omega
      have j2 : IntKind.i64.wrap ((k : Int) + 1) = (k : Int) + 1 := by rw [IntKind.wrap_i64]; omega
      have j3 : 0 ≤ (k : Int) := by omega
      obtain ⟨V, eV, hbV, hzV, c0, c1, c2⟩ := sl_box v (N k) (P k) (F k)
      replace eV := Lib.hid eV
      obtain ⟨B, eB⟩ : ∃ B, v.heap.size = B := ⟨_, rfl⟩
      rw [eB] at hbV hzV c0 c1 c2
      have hbw := Lib.hid (show Below w.heap.size w V from (hb.out.trans (hbV.mono (by have := hb.out.size; omega))))
      clear hbb hbV hb
      go_upto_region 5 with (fail)
      rw [← eV.out]
      try rw [eB]
      clear eB eV k0 k1 k2
      by_cases z0 : N k < 0
      · have y0 : decide (N k < 0) = true := decide_eq_true z0
        have hR : R = false := by rw [← ER.out]; exact decide_eq_false (fun h => by have q := (h.2.2 k hlt).1; unfold srB at q; have q := of_decide_eq_true q; omega)
        subst hR
        go_wp2
        go_ret
        exact ⟨rfl, hbw.out⟩
      have y0 : decide (N k < 0) = false := decide_eq_false z0
      by_cases z1 : 255 < N k
      · have y1 : decide (255 < N k) = true := decide_eq_true z1
        have hR : R = false := by rw [← ER.out]; exact decide_eq_false (fun h => by have q := (h.2.2 k hlt).1; unfold srB at q; have q := of_decide_eq_true q; omega)
        subst hR
        go_wp2
        go_ret
        exact ⟨rfl, hbw.out⟩
      have y1 : decide (255 < N k) = false := decide_eq_false z1
      by_cases z2 : P k < 1
      · have y2 : decide (P k < 1) = true := decide_eq_true z2
        have hR : R = false := by rw [← ER.out]; exact decide_eq_false (fun h => by have q := (h.2.2 k hlt).1; unfold srB at q; have q := of_decide_eq_true q; omega)
        subst hR
        go_wp2
        go_ret
        exact ⟨rfl, hbw.out⟩
      have y2 : decide (P k < 1) = false := decide_eq_false z2
      by_cases z3 : 1000 < P k
      · have y3 : decide (1000 < P k) = true := decide_eq_true z3
        have hR : R = false := by rw [← ER.out]; exact decide_eq_false (fun h => by have q := (h.2.2 k hlt).1; unfold srB at q; have q := of_decide_eq_true q; omega)
        subst hR
        go_wp2
        go_ret
        exact ⟨rfl, hbw.out⟩
      have y3 : decide (1000 < P k) = false := decide_eq_false z3
      by_cases z4 : F k < 0
      · have y4 : decide (F k < 0) = true := decide_eq_true z4
        have hR : R = false := by rw [← ER.out]; exact decide_eq_false (fun h => by have q := (h.2.2 k hlt).1; unfold srB at q; have q := of_decide_eq_true q; omega)
        subst hR
        go_wp2
        go_ret
        exact ⟨rfl, hbw.out⟩
      have y4 : decide (F k < 0) = false := decide_eq_false z4
      by_cases z5 : P k ≤ F k
      · have y5 : decide (P k ≤ F k) = true := decide_eq_true z5
        have hR : R = false := by rw [← ER.out]; exact decide_eq_false (fun h => by have q := (h.2.2 k hlt).1; unfold srB at q; have q := of_decide_eq_true q; omega)
        subst hR
        go_wp2
        go_ret
        exact ⟨rfl, hbw.out⟩
      have y5 : decide (P k ≤ F k) = false := decide_eq_false z5
      have hS := Lib.hid (show srB (N k) (P k) (F k) = true from decide_eq_true (by omega))
      have hBV := Lib.hid (show B < V.heap.size by omega)
      clear z0 z1 z2 z3 z4 z5
      go_upto_region 7 with (fail)
      clear y0 y1 y2 y3 y4 y5
      go_wp2_with fail
      go_loopw [5] (fun i v => ∃ j : Nat, j ≤ k ∧ i = .int .i64 (j : Int) ∧ Hid (Below w.heap.size w v) ∧ Hid (Below V.heap.size V v) ∧ Hid (∀ i, i < j → N i ≠ N k)) (fun i _ => k - (intOf i).toNat)
      case atStart => exact ⟨0, by omega, rfl, hbw, Lib.hid (Below.refl _ _), Lib.hid (fun j hj => by omega)⟩
      case round =>
        obtain ⟨j, hj, rfl, hb2, hV2, hN⟩ := hrel
        generalize wr = u at *
        by_cases hjk : j < k
        · have i1 : (j : Int) < (k : Int) := by omega
          have i2 : IntKind.i64.wrap ((j : Int) + 1) = (j : Int) + 1 := by rw [IntKind.wrap_i64]; omega
          have i3 : 0 ≤ (j : Int) := by omega
          have i4 : (j : Int) < (n : Int) := by omega
          have m0 := (bc hV2.out hBV.out).trans c0
          obtain ⟨b2, off2, ea2, -, m1, -, -⟩ := (HH.out u hb2.out).at (show j < n by omega)
          injection ea2 with ea2
          injection ea2 with e1 e2
          subst e1 e2
          obtain ⟨q, eq⟩ : ∃ q, (N j == N k) = q := ⟨_, rfl⟩
          have hbd := Lib.hid (show Below w.heap.size w u.drew from hb2.out.drew)
          have hVd := Lib.hid (show Below V.heap.size V u.drew from hV2.out.drew)
          go_upto_region 10 with (fail)
          refine region_moves (fun u => u.cell? ⟨b, off + j * 3, none⟩ = some (.int .i64 (N j)) ∧ u.cell? ⟨B, 0, none⟩ = some (.int .i64 (N k))) [] [(.free, 0), (.free, 1), (.free, 2), (.free, 3), (.take, 4), (.free, 5), (.take, 6), (.free, 7)] _ (by kernel_rfl) (by kernel_rfl) (by kernel_rfl) (by kernel_rfl) (by decide) rfl (fun _ _ _ _ _ h => h) ?_
          simp only [List.filterMap_cons, List.filterMap_nil, List.getElem?_toArray, List.getElem?_cons_zero, List.getElem?_cons_succ, Option.map_some]
          iterate 4
            first
              | (refine mv_free ?_ (Or.inl ⟨by rfl, ?_⟩) (⟨m1, m0⟩) ?_
                 rotate_left 1
                 · intro u
                   go_simp
                   try simp only [d1]
                   try simp only [d2]
                   try simp only [d3]
                   try simp only [d1]
                   try simp only [d2]
                   try simp only [d3]
                   try with_reducible rfl
                 simp only [Act.put, List.setIfInBounds_toArray, List.set_cons_zero, List.set_cons_succ])
              | (refine mv_free _ (Or.inr ⟨by rfl, rfl⟩) (⟨m1, m0⟩) ?_
                 simp only [Act.put, List.setIfInBounds_toArray, List.set_cons_zero, List.set_cons_succ])
          iterate 1
            first
              | (refine mv_take ?_ (Or.inl ⟨by rfl, ?_⟩) (⟨m1, m0⟩) ?_
                 rotate_left 1
                 · intro u hu
                   (try dsimp only at hu)
                   go_simp
                   try with_reducible rfl
                 simp only [Act.put, List.setIfInBounds_toArray, List.set_cons_zero, List.set_cons_succ])
              | (refine mv_take _ (Or.inr ⟨by rfl, rfl⟩) (⟨m1, m0⟩) ?_
                 simp only [Act.put, List.setIfInBounds_toArray, List.set_cons_zero, List.set_cons_succ])
          iterate 1
            first
              | (refine mv_free ?_ (Or.inl ⟨by rfl, ?_⟩) (⟨m1, m0⟩) ?_
                 rotate_left 1
                 · intro u
                   go_simp
                   try simp only [d1]
                   try simp only [d2]
                   try simp only [d3]
                   try simp only [d1]
                   try simp only [d2]
                   try simp only [d3]
                   try with_reducible rfl
                 simp only [Act.put, List.setIfInBounds_toArray, List.set_cons_zero, List.set_cons_succ])
              | (refine mv_free _ (Or.inr ⟨by rfl, rfl⟩) (⟨m1, m0⟩) ?_
                 simp only [Act.put, List.setIfInBounds_toArray, List.set_cons_zero, List.set_cons_succ])
          iterate 1
            first
              | (refine mv_take ?_ (Or.inl ⟨by rfl, ?_⟩) (⟨m1, m0⟩) ?_
                 rotate_left 1
                 · intro u hu
                   (try dsimp only at hu)
                   go_simp
                   try with_reducible rfl
                 simp only [Act.put, List.setIfInBounds_toArray, List.set_cons_zero, List.set_cons_succ])
              | (refine mv_take _ (Or.inr ⟨by rfl, rfl⟩) (⟨m1, m0⟩) ?_
                 simp only [Act.put, List.setIfInBounds_toArray, List.set_cons_zero, List.set_cons_succ])
          iterate 1
            first
              | (refine mv_free ?_ (Or.inl ⟨by rfl, ?_⟩) (⟨m1, m0⟩) ?_
                 rotate_left 1
                 · intro u
                   go_simp
                   try simp only [d1]
                   try simp only [d2]
                   try simp only [d3]
                   try simp only [d1]
                   try simp only [d2]
                   try simp only [d3]
                   try with_reducible rfl
                 simp only [Act.put, List.setIfInBounds_toArray, List.set_cons_zero, List.set_cons_succ])
              | (refine mv_free _ (Or.inr ⟨by rfl, rfl⟩) (⟨m1, m0⟩) ?_
                 simp only [Act.put, List.setIfInBounds_toArray, List.set_cons_zero, List.set_cons_succ])
          refine mv_done ?_
          skip
          cases q
          · have hN2 := Lib.hid (show ∀ i, i < j + 1 → N i ≠ N k from fun i hi => by
              by_cases z : i = j
              · subst z; exact beq_eq_false_iff_ne.1 eq
              · exact hN.out i (by omega))
            go_wp2
            go_roundw
            case rel => exact ⟨j + 1, by omega, by first | rfl | go_num, hbd, hVd, hN2⟩
            case measure => simp [intOf]; omega
          · have hR : R = false := by rw [← ER.out]; exact decide_eq_false (fun h => (h.2.2 k hlt).2 j hjk (beq_iff_eq.1 eq))
            subst hR
            go_wp2
            go_ret
            exact ⟨rfl, hbd.out⟩
        · obtain rfl : j = k := by omega
          have i1 : ¬ (j : Int) < (j : Int) := by omega
          have hP2 := Lib.hid (show RtP n N P F (j + 1) from fun i hi => by
            by_cases z : i = j
            · subst z; exact ⟨hS.out, hN.out⟩
            · exact hP.out i (by omega))
          go_wp2
          go_roundw
          case rel => exact ⟨j + 1, by omega, by first | rfl | go_num, hb2, hP2⟩
          case measure => simp [intOf]; omega
    · obtain rfl : k = n := by omega
      have j1 : ¬ (k : Int) < (k : Int) := by omega
      have q1 : rtB k N P F = (decide ((0 : Int) < (k : Int)) && decide ((k : Int) < 33)) := by
        unfold rtB
        have hp : ∀ i, i < k → srB (N i) (P i) (F i) = true ∧ ∀ j, j < i → N j ≠ N i := hP.out
        by_cases z : 0 < k ∧ k < 33
        · rw [decide_eq_true (⟨z.1, z.2, hp⟩ : 0 < k ∧ k < 33 ∧ ∀ i, i < k → srB (N i) (P i) (F i) = true ∧ ∀ j, j < i → N j ≠ N i), decide_eq_true (show (0 : Int) < (k : Int) by omega), decide_eq_true (show (k : Int) < 33 by omega)]; rfl
        · rw [decide_eq_false (fun h => z ⟨h.1, h.2.1⟩)]
          by_cases z1 : 0 < k
          · rw [decide_eq_false (show ¬ (k : Int) < 33 by omega)]; simp
          · rw [decide_eq_false (show ¬ (0 : Int) < (k : Int) by omega)]; rfl
      by_cases z1 : (0 : Int) < (k : Int)
      · have z2 : decide ((0 : Int) < (k : Int)) = true := decide_eq_true z1
        have hR : R = decide ((k : Int) < 33) := by rw [← ER.out, q1, z2, Bool.true_and]
        subst hR
        clear q1
        go_wp2
        go_ret
        exact ⟨rfl, hb.out⟩
      · have z2 : decide ((0 : Int) < (k : Int)) = false := decide_eq_false z1
        have hR : R = false := by rw [← ER.out, q1, z2, Bool.false_and]
        subst hR
        clear q1
        go_wp2
        go_ret
        exact ⟨rfl, hb.out⟩
def duB (P F t : Int) : Bool := decide (F ≤ t ∧ t % P = F)
set_option maxRecDepth 100000 in
set_option maxHeartbeats 8000000 in
theorem ldue (N P F t : Int) (w : World) (hs : srB N P F = true) (ht : -9223372036854775808 ≤ t ∧ t ≤ 9223372036854775807) : Calls Try.prog 13 #[.agg #[.int .i64 N, .int .i64 P, .int .i64 F], .int .i64 t] w fun e w' => e = .returned (.bool (duB P F t)) ∧ Below w.heap.size w w' := by
  have hs := of_decide_eq_true hs
  obtain ⟨V, eV, hbV, hzV, c0, c1, c2⟩ := sl_box w N P F
  replace eV := Lib.hid eV
  obtain ⟨B, eB⟩ : ∃ B, w.heap.size = B := ⟨_, rfl⟩
  have EB := Lib.hid eB
  rw [eB] at hbV c0 c1 c2 ⊢
  have hbd := Lib.hid (show Below B w V.drew from hbV.drew)
  have p0 : ¬ P = 0 := by omega
  have p1 : (P == 0) = false := beq_eq_false_iff_ne.2 p0
  by_cases z : F ≤ t
  · have y : decide (F ≤ t) = true := decide_eq_true z
    have tm : Int.tmod t P = t % P := Int.tmod_eq_emod_of_nonneg (by omega)
    have wr : IntKind.i64.wrap (t % P) = t % P := by have := Int.emod_nonneg t p0; have := Int.emod_lt_of_pos t (show 0 < P by omega); rw [IntKind.wrap_i64]; omega
    have hR : duB P F t = (t % P == F) := by
      unfold duB
      by_cases q : t % P = F
      · rw [decide_eq_true ⟨z, q⟩]; simp [q]
      · rw [decide_eq_false (fun h => q h.2)]; simp [q]
    rw [hR]
    clear hs hbV hzV
    go_enter Try.func13, Try.ntmps13
    go_upto_region 1 with (fail)
    try rw [eB]
    rw [← eV.out]
    refine region_moves (fun u => u.cell? ⟨B, 2, none⟩ = some (.int .i64 F) ∧ u.cell? ⟨B, 1, none⟩ = some (.int .i64 P)) [] [(.free, 0), (.free, 1), (.take, 2), (.free, 3), (.free, 4), (.free, 5), (.free, 6), (.take, 7), (.free, 8), (.free, 9), (.take, 10), (.free, 11), (.free, 12), (.free, 13)] _ (by kernel_rfl) (by kernel_rfl) (by kernel_rfl) (by kernel_rfl) (by decide) rfl (fun _ _ _ _ _ h => h) ?_
    simp only [List.filterMap_cons, List.filterMap_nil, List.getElem?_toArray, List.getElem?_cons_zero, List.getElem?_cons_succ, Option.map_some]
    iterate 2
      first
        | (refine mv_free ?_ (Or.inl ⟨by rfl, ?_⟩) (⟨c2, c1⟩) ?_
           rotate_left 1
           · intro u
             go_simp
             try simp only [d1]
             try simp only [d2]
             try simp only [d3]
             try simp only [d1]
             try simp only [d2]
             try simp only [d3]
             try with_reducible rfl
           simp only [Act.put, List.setIfInBounds_toArray, List.set_cons_zero, List.set_cons_succ])
        | (refine mv_free _ (Or.inr ⟨by rfl, rfl⟩) (⟨c2, c1⟩) ?_
           simp only [Act.put, List.setIfInBounds_toArray, List.set_cons_zero, List.set_cons_succ])
    iterate 1
      first
        | (refine mv_take ?_ (Or.inl ⟨by rfl, ?_⟩) (⟨c2, c1⟩) ?_
           rotate_left 1
           · intro u hu
             (try dsimp only at hu)
             go_simp
             try with_reducible rfl
           simp only [Act.put, List.setIfInBounds_toArray, List.set_cons_zero, List.set_cons_succ])
        | (refine mv_take _ (Or.inr ⟨by rfl, rfl⟩) (⟨c2, c1⟩) ?_
           simp only [Act.put, List.setIfInBounds_toArray, List.set_cons_zero, List.set_cons_succ])
    iterate 4
      first
        | (refine mv_free ?_ (Or.inl ⟨by rfl, ?_⟩) (⟨c2, c1⟩) ?_
           rotate_left 1
           · intro u
             go_simp
             try simp only [d1]
             try simp only [d2]
             try simp only [d3]
             try simp only [d1]
             try simp only [d2]
             try simp only [d3]
             try with_reducible rfl
           simp only [Act.put, List.setIfInBounds_toArray, List.set_cons_zero, List.set_cons_succ])
        | (refine mv_free _ (Or.inr ⟨by rfl, rfl⟩) (⟨c2, c1⟩) ?_
           simp only [Act.put, List.setIfInBounds_toArray, List.set_cons_zero, List.set_cons_succ])
    iterate 1
      first
        | (refine mv_take ?_ (Or.inl ⟨by rfl, ?_⟩) (⟨c2, c1⟩) ?_
           rotate_left 1
           · intro u hu
             (try dsimp only at hu)
             go_simp
             try with_reducible rfl
           simp only [Act.put, List.setIfInBounds_toArray, List.set_cons_zero, List.set_cons_succ])
        | (refine mv_take _ (Or.inr ⟨by rfl, rfl⟩) (⟨c2, c1⟩) ?_
           simp only [Act.put, List.setIfInBounds_toArray, List.set_cons_zero, List.set_cons_succ])
    iterate 2
      first
        | (refine mv_free ?_ (Or.inl ⟨by rfl, ?_⟩) (⟨c2, c1⟩) ?_
           rotate_left 1
           · intro u
             go_simp
             try simp only [d1]
             try simp only [d2]
             try simp only [d3]
             try simp only [d1]
             try simp only [d2]
             try simp only [d3]
             try with_reducible rfl
           simp only [Act.put, List.setIfInBounds_toArray, List.set_cons_zero, List.set_cons_succ])
        | (refine mv_free _ (Or.inr ⟨by rfl, rfl⟩) (⟨c2, c1⟩) ?_
           simp only [Act.put, List.setIfInBounds_toArray, List.set_cons_zero, List.set_cons_succ])
    iterate 1
      first
        | (refine mv_take ?_ (Or.inl ⟨by rfl, ?_⟩) (⟨c2, c1⟩) ?_
           rotate_left 1
           · intro u hu
             (try dsimp only at hu)
             go_simp
             try with_reducible rfl
           simp only [Act.put, List.setIfInBounds_toArray, List.set_cons_zero, List.set_cons_succ])
        | (refine mv_take _ (Or.inr ⟨by rfl, rfl⟩) (⟨c2, c1⟩) ?_
           simp only [Act.put, List.setIfInBounds_toArray, List.set_cons_zero, List.set_cons_succ])
    iterate 3
      first
        | (refine mv_free ?_ (Or.inl ⟨by rfl, ?_⟩) (⟨c2, c1⟩) ?_
           rotate_left 1
           · intro u
             go_simp
             try simp only [d1]
             try simp only [d2]
             try simp only [d3]
             try simp only [d1]
             try simp only [d2]
             try simp only [d3]
             try with_reducible rfl
           simp only [Act.put, List.setIfInBounds_toArray, List.set_cons_zero, List.set_cons_succ])
        | (refine mv_free _ (Or.inr ⟨by rfl, rfl⟩) (⟨c2, c1⟩) ?_
           simp only [Act.put, List.setIfInBounds_toArray, List.set_cons_zero, List.set_cons_succ])
    refine mv_done ?_
    go_wp2
    go_ret
    exact ⟨rfl, hbd.out⟩
  · have y : decide (F ≤ t) = false := decide_eq_false z
    have hR : duB P F t = false := decide_eq_false (fun h => z h.1)
    rw [hR]
    clear hs hbV hzV
    go_enter Try.func13, Try.ntmps13
    go_upto_region 1 with (fail)
    try rw [eB]
    rw [← eV.out]
    refine region_moves (fun u => u.cell? ⟨B, 2, none⟩ = some (.int .i64 F) ∧ u.cell? ⟨B, 1, none⟩ = some (.int .i64 P)) [] [(.free, 0), (.free, 1), (.take, 2), (.free, 3), (.free, 4), (.free, 5), (.free, 6), (.take, 7), (.free, 8), (.free, 9), (.take, 10), (.free, 11), (.free, 12), (.free, 13)] _ (by kernel_rfl) (by kernel_rfl) (by kernel_rfl) (by kernel_rfl) (by decide) rfl (fun _ _ _ _ _ h => h) ?_
    simp only [List.filterMap_cons, List.filterMap_nil, List.getElem?_toArray, List.getElem?_cons_zero, List.getElem?_cons_succ, Option.map_some]
    iterate 2
      first
        | (refine mv_free ?_ (Or.inl ⟨by rfl, ?_⟩) (⟨c2, c1⟩) ?_
           rotate_left 1
           · intro u
             go_simp
             try simp only [d1]
             try simp only [d2]
             try simp only [d3]
             try simp only [d1]
             try simp only [d2]
             try simp only [d3]
             try with_reducible rfl
           simp only [Act.put, List.setIfInBounds_toArray, List.set_cons_zero, List.set_cons_succ])
        | (refine mv_free _ (Or.inr ⟨by rfl, rfl⟩) (⟨c2, c1⟩) ?_
           simp only [Act.put, List.setIfInBounds_toArray, List.set_cons_zero, List.set_cons_succ])
    iterate 1
      first
        | (refine mv_take ?_ (Or.inl ⟨by rfl, ?_⟩) (⟨c2, c1⟩) ?_
           rotate_left 1
           · intro u hu
             (try dsimp only at hu)
             go_simp
             try with_reducible rfl
           simp only [Act.put, List.setIfInBounds_toArray, List.set_cons_zero, List.set_cons_succ])
        | (refine mv_take _ (Or.inr ⟨by rfl, rfl⟩) (⟨c2, c1⟩) ?_
           simp only [Act.put, List.setIfInBounds_toArray, List.set_cons_zero, List.set_cons_succ])
    iterate 4
      first
        | (refine mv_free ?_ (Or.inl ⟨by rfl, ?_⟩) (⟨c2, c1⟩) ?_
           rotate_left 1
           · intro u
             go_simp
             try simp only [d1]
             try simp only [d2]
             try simp only [d3]
             try simp only [d1]
             try simp only [d2]
             try simp only [d3]
             try with_reducible rfl
           simp only [Act.put, List.setIfInBounds_toArray, List.set_cons_zero, List.set_cons_succ])
        | (refine mv_free _ (Or.inr ⟨by rfl, rfl⟩) (⟨c2, c1⟩) ?_
           simp only [Act.put, List.setIfInBounds_toArray, List.set_cons_zero, List.set_cons_succ])
    iterate 1
      first
        | (refine mv_take ?_ (Or.inl ⟨by rfl, ?_⟩) (⟨c2, c1⟩) ?_
           rotate_left 1
           · intro u hu
             (try dsimp only at hu)
             go_simp
             try with_reducible rfl
           simp only [Act.put, List.setIfInBounds_toArray, List.set_cons_zero, List.set_cons_succ])
        | (refine mv_take _ (Or.inr ⟨by rfl, rfl⟩) (⟨c2, c1⟩) ?_
           simp only [Act.put, List.setIfInBounds_toArray, List.set_cons_zero, List.set_cons_succ])
    iterate 2
      first
        | (refine mv_free ?_ (Or.inl ⟨by rfl, ?_⟩) (⟨c2, c1⟩) ?_
           rotate_left 1
           · intro u
             go_simp
             try simp only [d1]
             try simp only [d2]
             try simp only [d3]
             try simp only [d1]
             try simp only [d2]
             try simp only [d3]
             try with_reducible rfl
           simp only [Act.put, List.setIfInBounds_toArray, List.set_cons_zero, List.set_cons_succ])
        | (refine mv_free _ (Or.inr ⟨by rfl, rfl⟩) (⟨c2, c1⟩) ?_
           simp only [Act.put, List.setIfInBounds_toArray, List.set_cons_zero, List.set_cons_succ])
    iterate 1
      first
        | (refine mv_take ?_ (Or.inl ⟨by rfl, ?_⟩) (⟨c2, c1⟩) ?_
           rotate_left 1
           · intro u hu
             (try dsimp only at hu)
             go_simp
             try with_reducible rfl
           simp only [Act.put, List.setIfInBounds_toArray, List.set_cons_zero, List.set_cons_succ])
        | (refine mv_take _ (Or.inr ⟨by rfl, rfl⟩) (⟨c2, c1⟩) ?_
           simp only [Act.put, List.setIfInBounds_toArray, List.set_cons_zero, List.set_cons_succ])
    iterate 3
      first
        | (refine mv_free ?_ (Or.inl ⟨by rfl, ?_⟩) (⟨c2, c1⟩) ?_
           rotate_left 1
           · intro u
             go_simp
             try simp only [d1]
             try simp only [d2]
             try simp only [d3]
             try simp only [d1]
             try simp only [d2]
             try simp only [d3]
             try with_reducible rfl
           simp only [Act.put, List.setIfInBounds_toArray, List.set_cons_zero, List.set_cons_succ])
        | (refine mv_free _ (Or.inr ⟨by rfl, rfl⟩) (⟨c2, c1⟩) ?_
           simp only [Act.put, List.setIfInBounds_toArray, List.set_cons_zero, List.set_cons_succ])
    refine mv_done ?_
    go_wp2
    go_ret
    exact ⟨rfl, hbd.out⟩
end Go.Proofs.Ytcpmdgbogdikiaa
