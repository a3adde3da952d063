/- Package bus: Right; the law's right and due; walked. -/
import Derived.Test.YtcpmdgbogdikiaaBus1
namespace Go.Proofs.Ytcpmdgbogdikiaa
open Go.ChangeShapes Go.WideShapes Go.ChangeAt Go.RowKit
set_option linter.unusedVariables false
set_option linter.unusedSimpArgs false
def RtP (n : Nat) (N P F : Nat → Int) (m : Nat) : Prop := ∀ i, i < m → srB (N i) (P i) (F i) = true ∧ ∀ k, k < i → N k ≠ N i
def rtB (n : Nat) (N P F : Nat → Int) : Bool := decide (0 < n ∧ n < 33 ∧ ∀ i, i < n → srB (N i) (P i) (F i) = true ∧ ∀ k, k < i → N k ≠ N i)
set_option maxRecDepth 100000 in
set_option maxHeartbeats 8000000 in
theorem bright (a : Option Addr) (cap n : Nat) (N P F : Nat → Int) (w : World) (h : Pl w a n N P F) (hcap : n ≤ cap) (hn : n ≤ maxLen) : Calls Try.prog 11 #[.slice a n cap] w fun e w' => e = .returned (.bool (rtB n N P F)) ∧ Below w.heap.size w w' := by
  have HH := Lib.hid (fun u (k : Below w.heap.size w u) => h.below k)
  have hn' : (n : Int) ≤ 9223372036854775807 := by unfold maxLen at hn; omega
  have HC := Lib.hid hcap
  clear h hcap hn
  obtain ⟨R, eR⟩ : ∃ R, rtB n N P F = R := ⟨_, rfl⟩
  rw [eR]
  have ER := Lib.hid eR
  clear eR
  by_cases z1 : n < 1
  · have y1 : (n : Int) < 1 := by omega
    have y2 : decide ((n : Int) < 1) = true := decide_eq_true y1
    have hR : R = false := by rw [← ER.out]; exact decide_eq_false (by omega)
    subst hR
    go_enter Try.func11, Try.ntmps11
    go_wp2
    go_ret
    exact ⟨rfl, Below.refl _ _⟩
  have y1 : ¬ (n : Int) < 1 := by omega
  have y2 : decide ((n : Int) < 1) = false := decide_eq_false y1
  by_cases z2 : 32 < n
  · have y3 : (32 : Int) < (n : Int) := by omega
    have y4 : decide ((32 : Int) < (n : Int)) = true := decide_eq_true y3
    have hR : R = false := by rw [← ER.out]; exact decide_eq_false (by omega)
    subst hR
    go_enter Try.func11, Try.ntmps11
    go_wp2
    go_ret
    exact ⟨rfl, Below.refl _ _⟩
  have y3 : ¬ (32 : Int) < (n : Int) := by omega
  have y4 : decide ((32 : Int) < (n : Int)) = false := decide_eq_false y3
  go_enter Try.func11, Try.ntmps11
  go_wp2_with fail
  go_loopw [15] (fun i v => ∃ k : Nat, k ≤ n ∧ i = .int .i64 (k : Int) ∧ Hid (Below w.heap.size w v) ∧ Hid (RtP n N P F k)) (fun i _ => n - (intOf i).toNat)
  case atStart => exact ⟨0, by omega, rfl, Lib.hid (Below.refl _ _), Lib.hid (fun j hj => by omega)⟩
  case round =>
    obtain ⟨k, hk, rfl, hb, hP⟩ := hrel
    generalize wr = v at *
    by_cases hlt : k < n
    · obtain ⟨b, off, ea, hbb, k0, k1, k2⟩ := (HH.out v hb.out).at hlt
      subst ea
      have j1 : (k : Int) < (n : Int) := by omega
      have j2 : IntKind.i64.wrap ((k : Int) + 1) = (k : Int) + 1 := by rw [IntKind.wrap_i64]; omega
      have j3 : 0 ≤ (k : Int) := by omega
      obtain ⟨V, eV, hbV, hzV, c0, c1, c2⟩ := sl_box v (N k) (P k) (F k)
      replace eV := Lib.hid eV
      obtain ⟨B, eB⟩ : ∃ B, v.heap.size = B := ⟨_, rfl⟩
      rw [eB] at hbV hzV c0 c1 c2
      have hbw := Lib.hid (show Below w.heap.size w V.drew from (hb.out.trans (hbV.mono (by have := hb.out.size; omega))).drew)
      have kc : (k : Int) ≤ (cap : Int) := by have := HC.out; omega
      have hBV := Lib.hid (show B < V.drew.heap.size by show B < V.heap.size; omega)
      obtain ⟨p, ep⟩ : ∃ p, srB (N k) (P k) (F k) = p := ⟨_, rfl⟩
      have SR := bsright (N k) (P k) (F k) V.drew
      rw [ep] at SR
      replace SR := Lib.hid SR
      replace ep := Lib.hid ep
      clear hbb hbV hzV hb
      go_upto_region 6 with (fail)
      rw [← eV.out]
      try rw [eB]
      clear eB eV k0 k1 k2
      cases p
      · have hR : R = false := by rw [← ER.out]; exact decide_eq_false (fun h => by have := (h.2.2 k hlt).1; rw [ep.out] at this; cases this)
        subst hR
        refine region_moves (fun u => u.cell? ⟨B, 0, none⟩ = some (.int .i64 (N k)) ∧ u.cell? ⟨B, 1, none⟩ = some (.int .i64 (P k)) ∧ u.cell? ⟨B, 2, none⟩ = some (.int .i64 (F k))) [] [(.take, 0), (.step, 1), (.free, 2), (.free, 3), (.free, 4), (.free, 5), (.free, 6), (.free, 7), (.take, 8), (.step, 9), (.free, 10), (.free, 11)] _ (by kernel_rfl) (by kernel_rfl) (by kernel_rfl) (by kernel_rfl) (by decide) rfl (fun _ _ _ _ _ h => h) ?_
        simp only [List.filterMap_cons, List.filterMap_nil, List.getElem?_toArray, List.getElem?_cons_zero, List.getElem?_cons_succ, Option.map_some]
        iterate 1
          first
            | (refine mv_take ?_ (Or.inl ⟨by rfl, ?_⟩) (⟨c0, c1, c2⟩) ?_
               rotate_left 1
               · intro u hu
                 (try dsimp only at hu)
                 go_simp
                 try with_reducible rfl
               simp only [Act.put, List.setIfInBounds_toArray, List.set_cons_zero, List.set_cons_succ])
            | (refine mv_take _ (Or.inr ⟨by rfl, rfl⟩) (⟨c0, c1, c2⟩) ?_
               simp only [Act.put, List.setIfInBounds_toArray, List.set_cons_zero, List.set_cons_succ])
        refine mv_step (fun K hK => ?_)
        go_simp
        refine SR.out.mono ?_
        rintro e u1 ⟨rfl, hb1⟩
        have hw1 := Lib.hid (show Below w.heap.size w u1 from hbw.out.trans (hb1.mono hbw.out.size))
        have c0 := (bc hb1 hBV.out).trans c0
        have c1 := (bc hb1 hBV.out).trans c1
        have c2 := (bc hb1 hBV.out).trans c2
        clear hb1
        go_wp2_with fail
        refine hK.out _ _ _ (fun u hu => hu) (⟨c0, c1, c2⟩) ?_
        clear hK K
        iterate 6
          first
            | (refine mv_free ?_ (Or.inl ⟨by rfl, ?_⟩) (⟨c0, c1, c2⟩) ?_
               rotate_left 1
               · intro u
                 go_simp
                 try simp only [d1]
                 try simp only [d2]
                 try simp only [d3]
                 try simp only [d1]
                 try simp only [d2]
                 try simp only [d3]
                 try with_reducible rfl
               simp only [Act.put, List.setIfInBounds_toArray, List.set_cons_zero, List.set_cons_succ])
            | (refine mv_free _ (Or.inr ⟨by rfl, rfl⟩) (⟨c0, c1, c2⟩) ?_
               simp only [Act.put, List.setIfInBounds_toArray, List.set_cons_zero, List.set_cons_succ])
        iterate 1
          first
            | (refine mv_take ?_ (Or.inl ⟨by rfl, ?_⟩) (⟨c0, c1, c2⟩) ?_
               rotate_left 1
               · intro u hu
                 (try dsimp only at hu)
                 go_simp
                 try with_reducible rfl
               simp only [Act.put, List.setIfInBounds_toArray, List.set_cons_zero, List.set_cons_succ])
            | (refine mv_take _ (Or.inr ⟨by rfl, rfl⟩) (⟨c0, c1, c2⟩) ?_
               simp only [Act.put, List.setIfInBounds_toArray, List.set_cons_zero, List.set_cons_succ])
        refine mv_step (fun K hK => ?_)
        go_simp
        refine hK.out _ _ _ (fun u hu => hu) (⟨c0, c1, c2⟩) ?_
        clear hK K
        iterate 2
          first
            | (refine mv_free ?_ (Or.inl ⟨by rfl, ?_⟩) (⟨c0, c1, c2⟩) ?_
               rotate_left 1
               · intro u
                 go_simp
                 try simp only [d1]
                 try simp only [d2]
                 try simp only [d3]
                 try simp only [d1]
                 try simp only [d2]
                 try simp only [d3]
                 try with_reducible rfl
               simp only [Act.put, List.setIfInBounds_toArray, List.set_cons_zero, List.set_cons_succ])
            | (refine mv_free _ (Or.inr ⟨by rfl, rfl⟩) (⟨c0, c1, c2⟩) ?_
               simp only [Act.put, List.setIfInBounds_toArray, List.set_cons_zero, List.set_cons_succ])
        refine mv_done ?_
        go_wp2
        go_ret
        exact ⟨rfl, hw1.out⟩
      · skip
        refine region_moves (fun u => u.cell? ⟨B, 0, none⟩ = some (.int .i64 (N k)) ∧ u.cell? ⟨B, 1, none⟩ = some (.int .i64 (P k)) ∧ u.cell? ⟨B, 2, none⟩ = some (.int .i64 (F k))) [] [(.take, 0), (.step, 1), (.free, 2), (.free, 3), (.free, 4), (.free, 5), (.free, 6), (.free, 7), (.take, 8), (.step, 9), (.free, 10), (.free, 11)] _ (by kernel_rfl) (by kernel_rfl) (by kernel_rfl) (by kernel_rfl) (by decide) rfl (fun _ _ _ _ _ h => h) ?_
        simp only [List.filterMap_cons, List.filterMap_nil, List.getElem?_toArray, List.getElem?_cons_zero, List.getElem?_cons_succ, Option.map_some]
        iterate 1
          first
            | (refine mv_take ?_ (Or.inl ⟨by rfl, ?_⟩) (⟨c0, c1, c2⟩) ?_
               rotate_left 1
               · intro u hu
                 (try dsimp only at hu)
                 go_simp
                 try with_reducible rfl
               simp only [Act.put, List.setIfInBounds_toArray, List.set_cons_zero, List.set_cons_succ])
            | (refine mv_take _ (Or.inr ⟨by rfl, rfl⟩) (⟨c0, c1, c2⟩) ?_
               simp only [Act.put, List.setIfInBounds_toArray, List.set_cons_zero, List.set_cons_succ])
        refine mv_step (fun K hK => ?_)
        go_simp
        refine SR.out.mono ?_
        rintro e u1 ⟨rfl, hb1⟩
        have hw1 := Lib.hid (show Below w.heap.size w u1 from hbw.out.trans (hb1.mono hbw.out.size))
        have hB1 := Lib.hid (show B < u1.heap.size by have := hb1.size; have := hBV.out; omega)
        have c0 := (bc hb1 hBV.out).trans c0
        have c1 := (bc hb1 hBV.out).trans c1
        have c2 := (bc hb1 hBV.out).trans c2
        clear hb1
        have FD := Lib.hid (bfind (some ⟨b, off, none⟩) cap k N P F (N k) u1 ((HH.out u1 hw1.out).pre (by omega)) (by omega))
        go_wp2_with fail
        refine hK.out _ _ _ (fun u hu => hu) (⟨c0, c1, c2⟩) ?_
        clear hK K
        iterate 6
          first
            | (refine mv_free ?_ (Or.inl ⟨by rfl, ?_⟩) (⟨c0, c1, c2⟩) ?_
               rotate_left 1
               · intro u
                 go_simp
                 try simp only [d1]
                 try simp only [d2]
                 try simp only [d3]
                 try simp only [d1]
                 try simp only [d2]
                 try simp only [d3]
                 try with_reducible rfl
               simp only [Act.put, List.setIfInBounds_toArray, List.set_cons_zero, List.set_cons_succ])
            | (refine mv_free _ (Or.inr ⟨by rfl, rfl⟩) (⟨c0, c1, c2⟩) ?_
               simp only [Act.put, List.setIfInBounds_toArray, List.set_cons_zero, List.set_cons_succ])
        iterate 1
          first
            | (refine mv_take ?_ (Or.inl ⟨by rfl, ?_⟩) (⟨c0, c1, c2⟩) ?_
               rotate_left 1
               · intro u hu
                 (try dsimp only at hu)
                 go_simp
                 try with_reducible rfl
               simp only [Act.put, List.setIfInBounds_toArray, List.set_cons_zero, List.set_cons_succ])
            | (refine mv_take _ (Or.inr ⟨by rfl, rfl⟩) (⟨c0, c1, c2⟩) ?_
               simp only [Act.put, List.setIfInBounds_toArray, List.set_cons_zero, List.set_cons_succ])
        refine mv_step (fun K hK => ?_)
        go_simp
        refine FD.out.mono ?_
        rintro e u2 ⟨r, rfl, hr, hb2⟩
        have hw2 := Lib.hid (show Below w.heap.size w u2 from hw1.out.trans (hb2.mono hw1.out.size))
        have c0 := (bc hb2 hB1.out).trans c0
        have c1 := (bc hb2 hB1.out).trans c1
        have c2 := (bc hb2 hB1.out).trans c2
        clear hb2 FD SR
        replace hr := Lib.hid hr
        go_wp2_with fail
        refine hK.out _ _ _ (fun u hu => hu) (⟨c0, c1, c2⟩) ?_
        clear hK K
        iterate 2
          first
            | (refine mv_free ?_ (Or.inl ⟨by rfl, ?_⟩) (⟨c0, c1, c2⟩) ?_
               rotate_left 1
               · intro u
                 go_simp
                 try simp only [d1]
                 try simp only [d2]
                 try simp only [d3]
                 try simp only [d1]
                 try simp only [d2]
                 try simp only [d3]
                 try with_reducible rfl
               simp only [Act.put, List.setIfInBounds_toArray, List.set_cons_zero, List.set_cons_succ])
            | (refine mv_free _ (Or.inr ⟨by rfl, rfl⟩) (⟨c0, c1, c2⟩) ?_
               simp only [Act.put, List.setIfInBounds_toArray, List.set_cons_zero, List.set_cons_succ])
        refine mv_done ?_
        rcases hr.out with ⟨j, hj, rfl, hN, -⟩ | ⟨rfl, hN⟩
        · have r0 : (0 : Int) ≤ (j : Int) := by omega
          have r1 : decide ((0 : Int) ≤ (j : Int)) = true := decide_eq_true r0
          have hR : R = false := by rw [← ER.out]; exact decide_eq_false (fun h => (h.2.2 k hlt).2 j hj hN)
          subst hR
          go_wp2
          go_ret
          exact ⟨rfl, hw2.out⟩
        · have r1 : decide ((0 : Int) ≤ (-1 : Int)) = false := by decide
          have hP2 := Lib.hid (show RtP n N P F (k + 1) from fun i hi => by
            by_cases q : i = k
            · subst q; exact ⟨ep.out, hN⟩
            · exact hP.out i (by omega))
          clear hN hP
          go_wp2
          go_roundw
          case rel => exact ⟨k + 1, by omega, by first | rfl | go_num, hw2, hP2⟩
          case measure => simp [intOf]; omega
    · obtain rfl : k = n := by omega
      have j1 : ¬ (k : Int) < (k : Int) := by omega
      have hR : R = true := by rw [← ER.out]; exact decide_eq_true ⟨by omega, by omega, hP.out⟩
      subst hR
      go_wp2
      go_ret
      exact ⟨rfl, hb.out⟩
end Go.Proofs.Ytcpmdgbogdikiaa
