/- Package maint: the changes of a mode; walked. -/
import Derived.Test.YtfejdbmamaggpaaDoorMaint2
import Derived.Test.YtfejdbmamaggpaaDoorEv
namespace Go.Proofs.YtfejdbmamaggpaaDoor
open Go.ChangeShapes Go.WideShapes Go.ChangeAt Go.RowKit
set_option linter.unusedVariables false
set_option linter.unusedSimpArgs false
set_option maxRecDepth 100000 in
set_option maxHeartbeats 8000000 in
theorem mchg_no (a : Option Addr) (n cap : Nat) (c : Int) (w : World) (h : hmB c = false) : Calls Tryd.prog 99 #[.slice a n cap, .int .i64 c] w fun e w' => e = .returned (.slice none 0 0) ∧ Below w.heap.size w w' := by
  have HM := mhas c w
  rw [h] at HM
  replace HM := Lib.hid HM
  go_enter Tryd.func99, Tryd.ntmps99
  go_wp2_with fail
  refine HM.out.mono ?_
  rintro e u1 ⟨rfl, rfl⟩
  go_wp2
  go_ret
  exact ⟨rfl, Below.refl _ _⟩
set_option maxRecDepth 100000 in
set_option maxHeartbeats 8000000 in
theorem mchg (a : Option Addr) (n cap : Nat) (T C A : Nat → Int) (c : Int) (N : Nat) (w : World) (h : Pl w a n T C A) (hn : n ≤ 1000) (hm : hmB c = true) (hN : N ≤ n) (hN1 : ∀ k, k < N → brB T C A c k = false) (hN2 : N = n ∨ brB T C A c N = true) : Calls Tryd.prog 99 #[.slice a n cap, .int .i64 c] w fun e w' => ∃ x, e = .returned x ∧ Sl w.heap.size x (cnt T C A c N) (fun p => T (idx T C A c N p)) (fun p => C (idx T C A c N p)) (fun p => A (idx T C A c N p)) w' ∧ Below w.heap.size w w' := by
  have HM := mhas c w
  rw [hm] at HM
  replace HM := Lib.hid HM
  obtain ⟨B, eB⟩ : ∃ B, w.heap.size = B := ⟨_, rfl⟩
  have HP := Lib.hid (fun u (k : Below w.heap.size w u) => h.below k)
  rw [eB] at HP
  have RP := Lib.hid (fun k u => mrep (T k) (C k) (A k) u)
  have hN1 := Lib.hid hN1
  have hN2 := Lib.hid hN2
  obtain ⟨i0, hi, hz0, hz1, hz2⟩ := xs_inf
  have hB0 := Lib.hid (show B ≤ w.heap.size by omega)
  have CL := Lib.hid (fun k => grL_len T C A c k)
  obtain ⟨tF, etF⟩ : ∃ tF : Nat → Int, tF = fun p => T (idx T C A c N p) := ⟨_, rfl⟩
  obtain ⟨cF, ecF⟩ : ∃ cF : Nat → Int, cF = fun p => C (idx T C A c N p) := ⟨_, rfl⟩
  obtain ⟨aF, eaF⟩ : ∃ aF : Nat → Int, aF = fun p => A (idx T C A c N p) := ⟨_, rfl⟩
  rw [eB, ← etF, ← ecF, ← eaF]
  have FF := Lib.hid (And.intro etF (And.intro ecF eaF))
  clear eB h hm etF ecF eaF
  go_enter Tryd.func99, Tryd.ntmps99
  go_wp2_with fail
  refine HM.out.mono ?_
  rintro e u1 ⟨rfl, rfl⟩
  clear HM
  go_wp2_with fail
  go_loopw [5, 14] (fun x i v => ∃ k : Nat, k ≤ N ∧ i = .int .i64 (k : Int) ∧ Hid (Sl B x (cnt T C A c k) tF cF aF v) ∧ Hid (Below B w v)) (fun _ i _ => n - (intOf i).toNat)
  case atStart => exact ⟨0, by omega, rfl, Lib.hid (Sl.nil _ _ _ _ _), Lib.hid (Below.refl _ _)⟩
  case round =>
    obtain ⟨k, hk, rfl, hX, hb⟩ := hrel
    generalize wr = v at *
    have hlk := CL.out k
    by_cases hlt : k < n
    · obtain ⟨b, off, ea, hbb, p0, p1, p2⟩ := (HP.out v hb.out).at hlt
      subst ea
      have j1 : (k : Int) < (n : Int) := by omega
      have j2 : IntKind.i64.wrap ((k : Int) + 1) = (k : Int) + 1 := by rw [IntKind.wrap_i64]; omega
      have j3 : 0 ≤ (k : Int) := by omega
      obtain ⟨V, eV, hbV, HV⟩ := ev_box v (T k) (C k) (A k)
      obtain ⟨D, eD⟩ : ∃ D, v.heap.size = D := ⟨_, rfl⟩
      have hz := Lib.hid (show B ≤ v.heap.size by have := hb.out.size; have := hB0.out; omega)
      have hXV := Lib.hid (hX.out.bel hbV)
      have hbw := Lib.hid (show Below B w V from hb.out.trans (hbV.mono hz.out))
      have hzV := Lib.hid (show B ≤ V.heap.size by have := hbV.size; have := hz.out; omega)
      rw [eD] at HV
      replace HV := Lib.hid HV
      replace eV := Lib.hid eV
      obtain ⟨c0, c1, c2⟩ := HV.out V (Below.refl _ _)
      clear hX hb hbV
      have GD := Lib.hid (show gdB T C A c k = (decide (C k = c) && rpB (T k) (C k) (A k)) from rfl)
      have KN := Lib.hid (fun (hg : gdB T C A c k = false) => show k < N by
        rcases Nat.lt_or_ge k N with q | q
        · exact q
        · have e : k = N := by omega
          rcases hN2.out with r | r
          · omega
          · rw [← e] at r; unfold brB at r; rw [hg] at r; simp at r)
      go_upto_region 7 with (fail)
      try rw [eD]
      rw [← eV.out]
      by_cases zc : C k = c
      rotate_left
      · have y : (C k != c) = true := by simp [zc]
        have hg : gdB T C A c k = false := by rw [GD.out, decide_eq_false zc]; rfl
        have hc := Lib.hid (cnt_no hg)
        have hkN := KN.out hg
        clear hg GD KN zc
        go_wp2
        go_roundw
        case rel => exact ⟨k + 1, by omega, by first | rfl | go_num, by rw [hc.out]; exact hXV, hbw⟩
        case measure => simp [intOf]; omega
      have y : (C k != c) = false := by simp [zc]
      have RPk := RP.out k V
      obtain ⟨r, er⟩ : ∃ r, rpB (T k) (C k) (A k) = r := ⟨_, rfl⟩
      rw [er] at RPk GD
      replace RPk := Lib.hid RPk
      rw [decide_eq_true zc, Bool.true_and] at GD
      clear er
      cases r
      · have hg := GD.out
        have hc := Lib.hid (cnt_no hg)
        have hkN := KN.out hg
        clear hg GD KN zc
        go_wp2_with fail
        refine RPk.out.mono ?_
        rintro e u2 ⟨rfl, hb2⟩
        have hX2 := Lib.hid (hXV.out.bel hb2)
        have hb3 := Lib.hid (show Below B w u2 from hbw.out.trans (hb2.mono hzV.out))
        clear hb2 RPk
        go_wp2
        go_roundw
        case rel => exact ⟨k + 1, by omega, by first | rfl | go_num, by rw [hc.out]; exact hX2, hb3⟩
        case measure => simp [intOf]; omega
      · have hg := Lib.hid GD.out
        clear GD KN zc
        have hc := Lib.hid (cnt_yes hg.out)
        have PRE := Lib.hid (fun p (hp : p < cnt T C A c k) => (show idx T C A c N p = idx T C A c k p by
          have := idx_pre (T := T) (C := C) (A := A) (c := c) (N := k) (N - k) hp
          rwa [show k + (N - k) = N by omega] at this))
        have BR := Lib.hid (show brB T C A c k = (gdB T C A c k && decide (0 < cnt T C A c k) && decide (T k < T (idx T C A c k (cnt T C A c k - 1)))) from rfl)
        have IDX := Lib.hid (fun (q : k < N) => idx_at hg.out q)
        obtain ⟨q, eq⟩ : ∃ q, cnt T C A c k = q := ⟨_, rfl⟩
        have hlk : q ≤ 1000 := by have h1 : cnt T C A c k ≤ k := hlk; omega
        rw [eq] at hXV hc PRE BR IDX
        have EQ := Lib.hid eq
        rw [hg.out] at BR
        clear eq hg
        go_wp2_with fail
        refine RPk.out.mono ?_
        rintro e u2 ⟨rfl, hb2⟩
        obtain ⟨c0, c1, c2⟩ := HV.out u2 hb2
        have hX2 := Lib.hid (hXV.out.bel hb2)
        have hb3 := Lib.hid (show Below B w u2 from hbw.out.trans (hb2.mono hzV.out))
        have hz3 := Lib.hid (show B ≤ u2.heap.size from Nat.le_trans hzV.out hb2.size)
        clear hb2 RPk hXV hbw hzV
        obtain ⟨ax, cx, ex, hcx, hPx⟩ := hX2.out.pl
        subst ex
        rcases Nat.eq_zero_or_pos q with z | z
        · subst z
          have BR := Lib.hid (show brB T C A c k = false by rw [BR.out]; rfl)
          clear hPx
          have kd0 := (show u2.drew.cell? ⟨D, 0, none⟩ = some (.int .i64 (T k)) from c0)
          have kd1 := (show u2.drew.cell? ⟨D, 1, none⟩ = some (.int .i64 (C k)) from c1)
          have kd2 := (show u2.drew.cell? ⟨D, 2, none⟩ = some (.int .i64 (A k)) from c2)
          have hXW := Lib.hid (hX2.out.bel (Below.refl _ _).drew)
          have hbW := Lib.hid (show Below B w u2.drew from hb3.out.drew)
          have hzW := Lib.hid (show B ≤ u2.drew.heap.size from hz3.out)
          go_upto_region 9 with (fail)
          refine region_moves (fun y => y.cell? ⟨D, 0, none⟩ = some (.int .i64 (T k))) [] [(.free, 0), (.free, 1), (.free, 2), (.free, 3), (.take, 4), (.free, 5), (.free, 6), (.free, 7), (.free, 8), (.free, 9), (.take, 10), (.free, 11), (.free, 12)] _ (by kernel_rfl) (by kernel_rfl) (by kernel_rfl) (by kernel_rfl) (by decide) rfl (fun _ _ _ _ _ h => h) ?_
          simp only [List.filterMap_cons, List.filterMap_nil, List.getElem?_toArray, List.getElem?_cons_zero, List.getElem?_cons_succ, Option.map_some]
          iterate 4
            first
              | (refine mv_free ?_ (Or.inl ⟨by rfl, ?_⟩) (c0) ?_
                 rotate_left 1
                 · intro u
                   go_simp
                   try simp only [d1]
                   try simp only [d2]
                   try simp only [d3]
                   try with_reducible rfl
                 simp only [Act.put, List.setIfInBounds_toArray, List.set_cons_zero, List.set_cons_succ])
              | (refine mv_free _ (Or.inr ⟨by rfl, rfl⟩) (c0) ?_
                 simp only [Act.put, List.setIfInBounds_toArray, List.set_cons_zero, List.set_cons_succ])
          iterate 1
            first
              | (refine mv_take ?_ (Or.inl ⟨by rfl, ?_⟩) (c0) ?_
                 rotate_left 1
                 · intro u hu
                   (try dsimp only at hu)
                   go_simp
                   try with_reducible rfl
                 simp only [Act.put, List.setIfInBounds_toArray, List.set_cons_zero, List.set_cons_succ])
              | (refine mv_take _ (Or.inr ⟨by rfl, rfl⟩) (c0) ?_
                 simp only [Act.put, List.setIfInBounds_toArray, List.set_cons_zero, List.set_cons_succ])
          iterate 5
            first
              | (refine mv_free ?_ (Or.inl ⟨by rfl, ?_⟩) (c0) ?_
                 rotate_left 1
                 · intro u
                   go_simp
                   try simp only [d1]
                   try simp only [d2]
                   try simp only [d3]
                   try with_reducible rfl
                 simp only [Act.put, List.setIfInBounds_toArray, List.set_cons_zero, List.set_cons_succ])
              | (refine mv_free _ (Or.inr ⟨by rfl, rfl⟩) (c0) ?_
                 simp only [Act.put, List.setIfInBounds_toArray, List.set_cons_zero, List.set_cons_succ])
          iterate 1
            first
              | (refine mv_take ?_ (Or.inl ⟨by rfl, ?_⟩) (c0) ?_
                 rotate_left 1
                 · intro u hu
                   (try dsimp only at hu)
                   go_simp
                   try with_reducible rfl
                 simp only [Act.put, List.setIfInBounds_toArray, List.set_cons_zero, List.set_cons_succ])
              | (refine mv_take _ (Or.inr ⟨by rfl, rfl⟩) (c0) ?_
                 simp only [Act.put, List.setIfInBounds_toArray, List.set_cons_zero, List.set_cons_succ])
          iterate 2
            first
              | (refine mv_free ?_ (Or.inl ⟨by rfl, ?_⟩) (c0) ?_
                 rotate_left 1
                 · intro u
                   go_simp
                   try simp only [d1]
                   try simp only [d2]
                   try simp only [d3]
                   try with_reducible rfl
                 simp only [Act.put, List.setIfInBounds_toArray, List.set_cons_zero, List.set_cons_succ])
              | (refine mv_free _ (Or.inr ⟨by rfl, rfl⟩) (c0) ?_
                 simp only [Act.put, List.setIfInBounds_toArray, List.set_cons_zero, List.set_cons_succ])
          refine mv_done ?_
          generalize u2.drew = W2 at *
          have hKN := Lib.hid (show k < N by
            rcases Nat.lt_or_ge k N with r | r
            · exact r
            · have e : k = N := by omega
              rcases hN2.out with s | s
              · omega
              · rw [← e, BR.out] at s; first | (simp at s; done) | (simp at s; omega))
          have hbA := ((Below.refl W2.heap.size W2).alloc (Nat.le_refl _) (.cells #[.int .i64 (T k), .int .i64 (C k), .int .i64 (A k)] 54))
          have hXA := Lib.hid (hXW.out.bel hbA)
          have hcc := Lib.hid (ev_cells W2 (T k) (C k) (A k))
          have ho := Lib.hid (ev_one (T k) (C k) (A k))
          have hbB := Lib.hid (show Below B w _ from hbW.out.trans (hbA.mono hzW.out))
          have e0 := IDX.out hKN.out
          have ROW := Lib.hid (show plL tF cF aF (0 + 1) = plL tF cF aF 0 ++ [.int .i64 (T k), .int .i64 (C k), .int .i64 (A k)] by
            rw [plL_snoc, FF.out.1, FF.out.2.1, FF.out.2.2]
            show _ ++ [Value.int .i64 (T (idx T C A c N 0)), .int .i64 (C (idx T C A c N 0)), .int .i64 (A (idx T C A c N 0))] = _
            rw [e0])
          clear hbA e0
          go_wp2_with (first | (at_builtin; go_loud (refine wpList_append_own _ rfl (.tmp 42) (.tmp 44) 60 rfl B 54 i0 _ 3 24 Tryd.underlying60 hi hz0 hz1 hz2 rfl (by decide) _ 0 _ rfl hXA.out ⟨W2.heap.size, 0, none⟩ 1 1 _ rfl rfl hcc.out ho.out (by unfold maxLen; omega) (by omega) (by have := hzW.out; simp; omega) ?_; intro x9 w9 hX9 hg9 hn9; have hb9 := Lib.hid (hbB.out.trans (grown_bel hXA.out hg9 (by have := hzW.out; simp; omega))); have hX10 := Lib.hid (show Sl B x9 (0 + 1) tF cF aF w9 by unfold Sl; rw [ROW.out]; exact hX9); clear hX9 hg9 hn9)) | fail)
          go_roundw
          case rel => exact ⟨k + 1, by have := hKN.out; omega, by first | rfl | go_num, by rw [hc.out]; exact hX10, hb9⟩
          case measure => simp [intOf]; omega
        · obtain ⟨q', hq'⟩ : ∃ q', q = q' + 1 := ⟨q - 1, by omega⟩
          obtain ⟨b1, o1, ea1, hb1, x0, x1, x2⟩ := hPx.at (show q' < q by omega)
          subst ea1
          have y2 : decide ((0 : Int) < (q : Int)) = true := decide_eq_true (by omega)
          have y4 : (0 : Int) < (q : Int) := by omega
          have y4n : 0 < q := by omega
          have y4m : decide (0 < q) = true := decide_eq_true y4n
          have y6n : q' < q := by omega
          have y5 : IntKind.i64.wrap ((q : Int) - 1) = (q' : Int) := by rw [IntKind.wrap_i64]; omega
          have y6 : (q' : Int) < (q : Int) := by omega
          have y7 : 0 ≤ (q' : Int) := by omega
          have EL := Lib.hid (show T (idx T C A c k (q - 1)) = tF q' by rw [FF.out.1]; show _ = T (idx T C A c N q'); rw [PRE.out q' (by omega), show q - 1 = q' by omega])
          have BR := Lib.hid (show brB T C A c k = decide (T k < tF q') by rw [BR.out, EL.out, decide_eq_true (show 0 < q by omega)]; rfl)
          clear hPx z hq'
          have kd0 := (show u2.drew.cell? ⟨D, 0, none⟩ = some (.int .i64 (T k)) from c0)
          have kd1 := (show u2.drew.cell? ⟨D, 1, none⟩ = some (.int .i64 (C k)) from c1)
          have kd2 := (show u2.drew.cell? ⟨D, 2, none⟩ = some (.int .i64 (A k)) from c2)
          have hXW := Lib.hid (hX2.out.bel (Below.refl _ _).drew)
          have hbW := Lib.hid (show Below B w u2.drew from hb3.out.drew)
          have hzW := Lib.hid (show B ≤ u2.drew.heap.size from hz3.out)
          go_upto_region 9 with (fail)
          by_cases zz : T k < tF q'
          · have y8 : decide (T k < tF q') = true := decide_eq_true zz
            have hkN := Lib.hid (show k = N by
              rcases Nat.lt_or_ge k N with r | r
              · have := hN1.out k r; rw [BR.out, y8] at this; cases this
              · omega)
            refine region_moves (fun y => y.cell? ⟨D, 0, none⟩ = some (.int .i64 (T k)) ∧ y.cell? ⟨b1, o1 + q' * 3, none⟩ = some (.int .i64 (tF q'))) [] [(.free, 0), (.free, 1), (.free, 2), (.free, 3), (.take, 4), (.free, 5), (.free, 6), (.free, 7), (.free, 8), (.free, 9), (.take, 10), (.free, 11), (.free, 12)] _ (by kernel_rfl) (by kernel_rfl) (by kernel_rfl) (by kernel_rfl) (by decide) rfl (fun _ _ _ _ _ h => h) ?_
            simp only [List.filterMap_cons, List.filterMap_nil, List.getElem?_toArray, List.getElem?_cons_zero, List.getElem?_cons_succ, Option.map_some]
            iterate 4
              first
                | (refine mv_free ?_ (Or.inl ⟨by rfl, ?_⟩) (⟨c0, x0⟩) ?_
                   rotate_left 1
                   · intro u
                     go_simp
                     try simp only [d1]
                     try simp only [d2]
                     try simp only [d3]
                     try with_reducible rfl
                   simp only [Act.put, List.setIfInBounds_toArray, List.set_cons_zero, List.set_cons_succ])
                | (refine mv_free _ (Or.inr ⟨by rfl, rfl⟩) (⟨c0, x0⟩) ?_
                   simp only [Act.put, List.setIfInBounds_toArray, List.set_cons_zero, List.set_cons_succ])
            iterate 1
              first
                | (refine mv_take ?_ (Or.inl ⟨by rfl, ?_⟩) (⟨c0, x0⟩) ?_
                   rotate_left 1
                   · intro u hu
                     (try dsimp only at hu)
                     go_simp
                     try with_reducible rfl
                   simp only [Act.put, List.setIfInBounds_toArray, List.set_cons_zero, List.set_cons_succ])
                | (refine mv_take _ (Or.inr ⟨by rfl, rfl⟩) (⟨c0, x0⟩) ?_
                   simp only [Act.put, List.setIfInBounds_toArray, List.set_cons_zero, List.set_cons_succ])
            iterate 5
              first
                | (refine mv_free ?_ (Or.inl ⟨by rfl, ?_⟩) (⟨c0, x0⟩) ?_
                   rotate_left 1
                   · intro u
                     go_simp
                     try simp only [d1]
                     try simp only [d2]
                     try simp only [d3]
                     try with_reducible rfl
                   simp only [Act.put, List.setIfInBounds_toArray, List.set_cons_zero, List.set_cons_succ])
                | (refine mv_free _ (Or.inr ⟨by rfl, rfl⟩) (⟨c0, x0⟩) ?_
                   simp only [Act.put, List.setIfInBounds_toArray, List.set_cons_zero, List.set_cons_succ])
            iterate 1
              first
                | (refine mv_take ?_ (Or.inl ⟨by rfl, ?_⟩) (⟨c0, x0⟩) ?_
                   rotate_left 1
                   · intro u hu
                     (try dsimp only at hu)
                     go_simp
                     try with_reducible rfl
                   simp only [Act.put, List.setIfInBounds_toArray, List.set_cons_zero, List.set_cons_succ])
                | (refine mv_take _ (Or.inr ⟨by rfl, rfl⟩) (⟨c0, x0⟩) ?_
                   simp only [Act.put, List.setIfInBounds_toArray, List.set_cons_zero, List.set_cons_succ])
            iterate 2
              first
                | (refine mv_free ?_ (Or.inl ⟨by rfl, ?_⟩) (⟨c0, x0⟩) ?_
                   rotate_left 1
                   · intro u
                     go_simp
                     try simp only [d1]
                     try simp only [d2]
                     try simp only [d3]
                     try with_reducible rfl
                   simp only [Act.put, List.setIfInBounds_toArray, List.set_cons_zero, List.set_cons_succ])
                | (refine mv_free _ (Or.inr ⟨by rfl, rfl⟩) (⟨c0, x0⟩) ?_
                   simp only [Act.put, List.setIfInBounds_toArray, List.set_cons_zero, List.set_cons_succ])
            refine mv_done ?_
            generalize u2.drew = W2 at *
            go_wp2
            go_ret
            exact ⟨_, rfl, by rw [← hkN.out, EQ.out]; exact hXW.out, hbW.out⟩
          · have y8 : decide (T k < tF q') = false := decide_eq_false zz
            have y9 := Lib.hid zz
            clear zz
            refine region_moves (fun y => y.cell? ⟨D, 0, none⟩ = some (.int .i64 (T k)) ∧ y.cell? ⟨b1, o1 + q' * 3, none⟩ = some (.int .i64 (tF q'))) [] [(.free, 0), (.free, 1), (.free, 2), (.free, 3), (.take, 4), (.free, 5), (.free, 6), (.free, 7), (.free, 8), (.free, 9), (.take, 10), (.free, 11), (.free, 12)] _ (by kernel_rfl) (by kernel_rfl) (by kernel_rfl) (by kernel_rfl) (by decide) rfl (fun _ _ _ _ _ h => h) ?_
            simp only [List.filterMap_cons, List.filterMap_nil, List.getElem?_toArray, List.getElem?_cons_zero, List.getElem?_cons_succ, Option.map_some]
            iterate 4
              first
                | (refine mv_free ?_ (Or.inl ⟨by rfl, ?_⟩) (⟨c0, x0⟩) ?_
                   rotate_left 1
                   · intro u
                     go_simp
                     try simp only [d1]
                     try simp only [d2]
                     try simp only [d3]
                     try with_reducible rfl
                   simp only [Act.put, List.setIfInBounds_toArray, List.set_cons_zero, List.set_cons_succ])
                | (refine mv_free _ (Or.inr ⟨by rfl, rfl⟩) (⟨c0, x0⟩) ?_
                   simp only [Act.put, List.setIfInBounds_toArray, List.set_cons_zero, List.set_cons_succ])
            iterate 1
              first
                | (refine mv_take ?_ (Or.inl ⟨by rfl, ?_⟩) (⟨c0, x0⟩) ?_
                   rotate_left 1
                   · intro u hu
                     (try dsimp only at hu)
                     go_simp
                     try with_reducible rfl
                   simp only [Act.put, List.setIfInBounds_toArray, List.set_cons_zero, List.set_cons_succ])
                | (refine mv_take _ (Or.inr ⟨by rfl, rfl⟩) (⟨c0, x0⟩) ?_
                   simp only [Act.put, List.setIfInBounds_toArray, List.set_cons_zero, List.set_cons_succ])
            iterate 5
              first
                | (refine mv_free ?_ (Or.inl ⟨by rfl, ?_⟩) (⟨c0, x0⟩) ?_
                   rotate_left 1
                   · intro u
                     go_simp
                     try simp only [d1]
                     try simp only [d2]
                     try simp only [d3]
                     try with_reducible rfl
                   simp only [Act.put, List.setIfInBounds_toArray, List.set_cons_zero, List.set_cons_succ])
                | (refine mv_free _ (Or.inr ⟨by rfl, rfl⟩) (⟨c0, x0⟩) ?_
                   simp only [Act.put, List.setIfInBounds_toArray, List.set_cons_zero, List.set_cons_succ])
            iterate 1
              first
                | (refine mv_take ?_ (Or.inl ⟨by rfl, ?_⟩) (⟨c0, x0⟩) ?_
                   rotate_left 1
                   · intro u hu
                     (try dsimp only at hu)
                     go_simp
                     try with_reducible rfl
                   simp only [Act.put, List.setIfInBounds_toArray, List.set_cons_zero, List.set_cons_succ])
                | (refine mv_take _ (Or.inr ⟨by rfl, rfl⟩) (⟨c0, x0⟩) ?_
                   simp only [Act.put, List.setIfInBounds_toArray, List.set_cons_zero, List.set_cons_succ])
            iterate 2
              first
                | (refine mv_free ?_ (Or.inl ⟨by rfl, ?_⟩) (⟨c0, x0⟩) ?_
                   rotate_left 1
                   · intro u
                     go_simp
                     try simp only [d1]
                     try simp only [d2]
                     try simp only [d3]
                     try with_reducible rfl
                   simp only [Act.put, List.setIfInBounds_toArray, List.set_cons_zero, List.set_cons_succ])
                | (refine mv_free _ (Or.inr ⟨by rfl, rfl⟩) (⟨c0, x0⟩) ?_
                   simp only [Act.put, List.setIfInBounds_toArray, List.set_cons_zero, List.set_cons_succ])
            refine mv_done ?_
            generalize u2.drew = W2 at *
            have hKN := Lib.hid (show k < N by
              rcases Nat.lt_or_ge k N with r | r
              · exact r
              · have e : k = N := by omega
                rcases hN2.out with s | s
                · omega
                · rw [← e, BR.out] at s; first | (simp at s; done) | (rw [y8] at s; cases s))
            have hbA := ((Below.refl W2.heap.size W2).alloc (Nat.le_refl _) (.cells #[.int .i64 (T k), .int .i64 (C k), .int .i64 (A k)] 54))
            have hXA := Lib.hid (hXW.out.bel hbA)
            have hcc := Lib.hid (ev_cells W2 (T k) (C k) (A k))
            have ho := Lib.hid (ev_one (T k) (C k) (A k))
            have hbB := Lib.hid (show Below B w _ from hbW.out.trans (hbA.mono hzW.out))
            have e0 := IDX.out hKN.out
            have ROW := Lib.hid (show plL tF cF aF (q + 1) = plL tF cF aF q ++ [.int .i64 (T k), .int .i64 (C k), .int .i64 (A k)] by
              rw [plL_snoc, FF.out.1, FF.out.2.1, FF.out.2.2]
              show _ ++ [Value.int .i64 (T (idx T C A c N q)), .int .i64 (C (idx T C A c N q)), .int .i64 (A (idx T C A c N q))] = _
              rw [e0])
            clear hbA e0
            go_wp2_with (first | (at_builtin; go_loud (refine wpList_append_own _ rfl (.tmp 42) (.tmp 44) 60 rfl B 54 i0 _ 3 24 Tryd.underlying60 hi hz0 hz1 hz2 rfl (by decide) _ q _ rfl hXA.out ⟨W2.heap.size, 0, none⟩ 1 1 _ rfl rfl hcc.out ho.out (by unfold maxLen; omega) (by omega) (by have := hzW.out; simp; omega) ?_; intro x9 w9 hX9 hg9 hn9; have hb9 := Lib.hid (hbB.out.trans (grown_bel hXA.out hg9 (by have := hzW.out; simp; omega))); have hX10 := Lib.hid (show Sl B x9 (q + 1) tF cF aF w9 by unfold Sl; rw [ROW.out]; exact hX9); clear hX9 hg9 hn9)) | fail)
            go_roundw
            case rel => exact ⟨k + 1, by have := hKN.out; omega, by first | rfl | go_num, by rw [hc.out]; exact hX10, hb9⟩
            case measure => simp [intOf]; omega
    · obtain rfl : k = n := by omega
      obtain rfl : k = N := by omega
      have j1 : ¬ (k : Int) < (k : Int) := by omega
      go_wp2
      go_ret
      exact ⟨_, rfl, hX.out, hb.out⟩
end Go.Proofs.YtfejdbmamaggpaaDoor
