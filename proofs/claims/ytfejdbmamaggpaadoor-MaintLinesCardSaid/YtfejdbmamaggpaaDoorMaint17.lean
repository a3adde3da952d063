/- The document's Line of any event; walked. -/
import Derived.Test.YtfejdbmamaggpaaDoorMaint12
import Derived.Test.YtfejdbmamaggpaaDoorMaint15
import Derived.Test.YtfejdbmamaggpaaDoorMaint16
namespace Go.Proofs.YtfejdbmamaggpaaDoor
open Go.ChangeShapes Go.WideShapes Go.ChangeAt Go.RowKit
set_option linter.unusedVariables false
set_option linter.unusedSimpArgs false
theorem rmd_new (w : World) : MdM (w.alloc (.cells #[.string ⟨#[119, 97, 114, 109, 105, 110, 103]⟩, .string ⟨#[100, 117, 97, 108]⟩, .string ⟨#[111, 110, 108, 121, 49]⟩, .string ⟨#[111, 110, 108, 121, 50]⟩, .string ⟨#[115, 121, 110, 116, 104, 101, 116, 105, 99]⟩, .string ⟨#[108, 111, 115, 116]⟩] 9)) w.heap.size := by
  refine ⟨by simp, fun i hi => ?_⟩
  rw [cell_of_row _ w.heap.size _ _ _ _ (heap_alloc_new w _)]
  match i, hi with
  | 0, _ => rfl
  | 1, _ => rfl
  | 2, _ => rfl
  | 3, _ => rfl
  | 4, _ => rfl
  | 5, _ => rfl
  | i + 6, h => exact absurd h (by omega)
set_option maxRecDepth 100000 in
set_option maxHeartbeats 8000000 in
theorem rmodes (w : World) : Calls Tryd.prog 81 #[] w fun e w' => ∃ g, e = .returned (.slice (some ⟨g, 0, none⟩) 6 6) ∧ MdM w' g ∧ Below w.heap.size w w' := by
  have hT := Lib.hid (rmd_new w)
  have hB := Lib.hid ((Below.refl w.heap.size w).alloc (Nat.le_refl _) (.cells #[.string ⟨#[119, 97, 114, 109, 105, 110, 103]⟩, .string ⟨#[100, 117, 97, 108]⟩, .string ⟨#[111, 110, 108, 121, 49]⟩, .string ⟨#[111, 110, 108, 121, 50]⟩, .string ⟨#[115, 121, 110, 116, 104, 101, 116, 105, 99]⟩, .string ⟨#[108, 111, 115, 116]⟩] 9))
  go_enter Tryd.func81, Tryd.ntmps81
  go_wp2
  go_ret
  exact ⟨_, rfl, hT.out, hB.out⟩
theorem nm_hm {c : Int} (h : nmB c = true) : hmB c = decide (9 < c) := by
  obtain ⟨k, hk, rfl⟩ := (nmB_iff c).1 h
  have : ∀ k, k < 7 → hmB (mC k) = decide (9 < mC k) := by decide
  exact this k hk
theorem td_all (T C A : Int) : tdB T C A = rpB T C A := by
  cases hm : hmB C with
  | true => exact td_rp hm
  | false =>
    cases hn : nmB C with
    | false => unfold tdB rpB; rw [hn]; rfl
    | true =>
      have h9 : decide (9 < C) = false := by rw [← nm_hm hn]; exact hm
      unfold tdB rpB
      rw [hn, h9, hm]
      rw [Bool.eq_iff_iff]
      simp
      omega
set_option maxRecDepth 100000 in
set_option maxHeartbeats 8000000 in
theorem rlinE (t c a : Int) (w : World) : Calls Tryd.prog 36 #[.agg #[.int .i64 t, .int .i64 c, .int .i64 a]] w fun e w' => e = .returned (.tuple #[.string (lnT t c a), .bool (rpB t c a)]) ∧ Below w.heap.size w w' := by
  obtain ⟨V, eV, hbV, HC⟩ := ev_box w t c a
  have HW := Lib.hid (fun x (k : Below V.heap.size V x) => (hbV.trans (k.mono hbV.size) : Below w.heap.size w x))
  have RP := fun u => rtold t c a u
  rw [td_all] at RP
  have NM := fun u => rnameX c u
  have MM := Lib.hid (fun u => rmodes u)
  obtain ⟨B, eB⟩ : ∃ B, w.heap.size = B := ⟨_, rfl⟩
  rw [eB] at HC hbV
  replace HC := Lib.hid HC
  replace eV := Lib.hid eV
  cases hR : rpB t c a with
  | false =>
    have e0 : lnT t c a = ⟨#[]⟩ := if_neg (by rw [hR]; simp)
    rw [e0]
    rw [hR] at RP
    replace RP := Lib.hid RP
    replace NM := Lib.hid NM
    obtain ⟨c0, c1, c2⟩ := HC.out V (Below.refl _ _)
    clear hbV hR e0
    go_enter Tryd.func36, Tryd.ntmps36
    go_upto_region 1 with (fail)
    try rw [eB]
    rw [← eV.out]
    go_wp2_with fail
    refine (RP.out V).mono ?_
    rintro e u1 ⟨rfl, hb⟩
    have k1 := Lib.hid (show Below V.heap.size V u1 from hb)
    clear hb c0 c1 c2
    go_wp2
    go_ret2
    exact ⟨rfl, HW.out _ k1.out⟩
  | true =>
    obtain ⟨⟨kk, hk, hkc⟩, ⟨h0, h1⟩, h2, h3⟩ := (rpB_iff _ _ _).1 hR
    have e0 : lnT t c a = lnS t c a := if_pos hR
    rw [e0]
    rw [hR] at RP
    have hnm : nmB c = true := (nmB_iff c).2 ⟨kk, hk, hkc⟩
    have h9 := nm_hm hnm
    rw [show nmT c = nmS c from if_pos hnm, hnm] at NM
    obtain ⟨n, rfl⟩ : ∃ n : Nat, t = n := ⟨t.toNat, by omega⟩
    have IT := Lib.hid (fun x (k : Below V.heap.size V x) => rnum n (by omega) x)
    replace RP := Lib.hid RP
    have s1 := it_sz h0 h1
    have s2 := nm_len c
    have s3 := md_len a.toNat
    obtain ⟨X1, eX1⟩ : ∃ z, (⟨(Lib.itoa (n : Int)).toArray⟩ : ByteArray) = z := ⟨_, rfl⟩
    have s4 : (⟨#[116]⟩ ++ X1 : ByteArray).size = 1 + X1.size := sz_app _ _
    have s5 : (⟨#[116]⟩ ++ X1 ++ ⟨#[32]⟩ : ByteArray).size = 2 + X1.size := by rw [sz_app, s4]; show 1 + X1.size + 1 = _; omega
    have s6 : (⟨#[116]⟩ ++ X1 ++ ⟨#[32]⟩ ++ nmS c : ByteArray).size = 2 + X1.size + (nmS c).size := by rw [sz_app, s5]
    cases hM : hmB c with
    | false =>
      have e1 : lnS n c a = lnX n c := if_neg (by rw [hM]; simp)
      rw [e1]
      unfold lnX
      rw [eX1] at IT s1 ⊢
      rw [hM] at h9
      have y9 : decide (9 < c) = false := h9.symm
      have y8 : ¬ 9 < c := of_decide_eq_false y9
      generalize nmS c = X2 at *
      generalize mdN a.toNat = X3 at *
      replace NM := Lib.hid NM
      obtain ⟨c0, c1, c2⟩ := HC.out V (Below.refl _ _)
      clear hbV hR e0 e1 hnm hkc h2 h3 hM h9
      go_enter Tryd.func36, Tryd.ntmps36
      go_upto_region 1 with (fail)
      try rw [eB]
      rw [← eV.out]
      go_wp2_with fail
      refine (RP.out V).mono ?_
      rintro e u1 ⟨rfl, hb⟩
      have k1 := Lib.hid (show Below V.heap.size V u1 from hb)
      clear hb c0 c1 c2
      obtain ⟨c0, c1, c2⟩ := HC.out u1 k1.out
      go_wp2_with fail
      refine (NM.out u1).mono ?_
      rintro e u2 ⟨rfl, hb⟩
      have k2 := Lib.hid (show Below V.heap.size V u2 from k1.out.trans (hb.mono k1.out.size))
      clear hb c0 c1 c2
      obtain ⟨c0, c1, c2⟩ := HC.out u2 k2.out
      go_wp2_with fail
      refine (IT.out u2 k2.out).mono ?_
      rintro e u3 ⟨rfl, hb⟩
      have k3 := Lib.hid (show Below V.heap.size V u3 from k2.out.trans (hb.mono k2.out.size))
      clear hb c0 c1 c2
      obtain ⟨c0, c1, c2⟩ := HC.out u3 k3.out
      go_wp2
      go_ret2
      exact ⟨rfl, HW.out _ k3.out⟩
    | true =>
      have e1 : lnS n c a = (lnX n c ++ ⟨#[32]⟩) ++ mdN a.toNat := by rw [ByteArray.append_assoc]; exact if_pos hM
      rw [e1]
      unfold lnX
      rw [eX1] at IT s1 ⊢
      rw [hM] at h9 h3
      simp only [if_true] at h3
      have y9 : decide (9 < c) = true := h9.symm
      have y8 : 9 < c := of_decide_eq_true y9
      obtain ⟨q, rfl⟩ : ∃ q : Nat, a = q := ⟨a.toNat, by omega⟩
      rw [show ((q : Int)).toNat = q by omega] at s3 ⊢
      have MQ := Lib.hid (fun g (x : World) (h : MdM x g) => (show x.cell? ⟨g, q, none⟩ = some (.string (mdN q)) from h.2 q (by omega)))
      have j1 : (q : Int) < 6 := by omega
      generalize nmS c = X2 at *
      generalize mdN q = X3 at *
      replace NM := Lib.hid NM
      obtain ⟨c0, c1, c2⟩ := HC.out V (Below.refl _ _)
      obtain ⟨Y1, eY⟩ : ∃ z, (⟨#[116]⟩ ++ X1 ++ ⟨#[32]⟩ ++ X2 : ByteArray) = z := ⟨_, rfl⟩
      have s8 : (Y1 ++ ⟨#[32]⟩ : ByteArray).size = Y1.size + 1 := sz_app _ _
      have g1 : (9223372036854775807 < Y1.size + 1) = False := eq_false (by rw [← eY, s6]; omega)
      have g2 : (9223372036854775807 < Y1.size + 1 + X3.size) = False := eq_false (by rw [← eY, s6]; omega)
      have G1 := Lib.hid g1
      have G2 := Lib.hid g2
      rw [eY]
      have EY := Lib.hid eY
      clear eY g1 g2 s8
      clear hbV hR e0 e1 hnm hkc hM h9
      go_enter Tryd.func36, Tryd.ntmps36
      go_upto_region 1 with (fail)
      try rw [eB]
      rw [← eV.out]
      go_wp2_with fail
      refine (RP.out V).mono ?_
      rintro e u1 ⟨rfl, hb⟩
      have k1 := Lib.hid (show Below V.heap.size V u1 from hb)
      clear hb c0 c1 c2
      obtain ⟨c0, c1, c2⟩ := HC.out u1 k1.out
      go_wp2_with fail
      refine (NM.out u1).mono ?_
      rintro e u2 ⟨rfl, hb⟩
      have k2 := Lib.hid (show Below V.heap.size V u2 from k1.out.trans (hb.mono k1.out.size))
      clear hb c0 c1 c2
      obtain ⟨c0, c1, c2⟩ := HC.out u2 k2.out
      go_wp2_with fail
      refine (IT.out u2 k2.out).mono ?_
      rintro e u3 ⟨rfl, hb⟩
      have k3 := Lib.hid (show Below V.heap.size V u3 from k2.out.trans (hb.mono k2.out.size))
      clear hb c0 c1 c2
      obtain ⟨c0, c1, c2⟩ := HC.out u3 k3.out
      go_upto_region 6 with (fail)
      rw [EY.out]
      have g1 := G1.out
      have g2 := G2.out
      clear s4 s5 s6 s1 s2
      refine region_moves (fun y => y.cell? ⟨B, 2, none⟩ = some (.int .i64 (q : Int))) [] [(.free, 0), (.free, 1), (.free, 3), (.take, 4), (.step, 2), (.free, 5), (.take, 6), (.free, 7), (.free, 8)] _ (by kernel_rfl) (by kernel_rfl) (by kernel_rfl) (by kernel_rfl) (by decide) rfl (fun _ _ _ _ _ h => h) ?_
      simp only [List.filterMap_cons, List.filterMap_nil, List.getElem?_toArray, List.getElem?_cons_zero, List.getElem?_cons_succ, Option.map_some]
      iterate 3
        first
          | (refine mv_free ?_ (Or.inl ⟨by rfl, ?_⟩) (c2) ?_
             rotate_left 1
             · intro u
               go_simp
               try simp only [d1]
               try simp only [d2]
               try simp only [d3]
               try with_reducible rfl
             simp only [Act.put, List.setIfInBounds_toArray, List.set_cons_zero, List.set_cons_succ])
          | (refine mv_free _ (Or.inr ⟨by rfl, rfl⟩) (c2) ?_
             simp only [Act.put, List.setIfInBounds_toArray, List.set_cons_zero, List.set_cons_succ])
      iterate 1
        first
          | (refine mv_take ?_ (Or.inl ⟨by rfl, ?_⟩) (c2) ?_
             rotate_left 1
             · intro u hu
               (try dsimp only at hu)
               go_simp
               try with_reducible rfl
             simp only [Act.put, List.setIfInBounds_toArray, List.set_cons_zero, List.set_cons_succ])
          | (refine mv_take _ (Or.inr ⟨by rfl, rfl⟩) (c2) ?_
             simp only [Act.put, List.setIfInBounds_toArray, List.set_cons_zero, List.set_cons_succ])
      refine mv_step (fun K hK => ?_)
      go_simp
      refine (MM.out _).mono ?_
      rintro e u5 ⟨g, rfl, hT, hb⟩
      have k5 := Lib.hid (show Below V.heap.size V u5 from k3.out.drew.trans (hb.mono k3.out.size))
      have m0 := MQ.out g u5 hT
      have hg := hT.1
      clear hb c0 c1 c2 hT
      obtain ⟨c0, c1, c2⟩ := HC.out u5 k5.out
      go_wp2_with fail
      refine hK.out (fun y => y.cell? ⟨B, 2, none⟩ = some (.int .i64 (q : Int)) ∧ y.cell? ⟨g, q, none⟩ = some (.string X3)) _ _ (fun y hy => hy.1) (⟨c2, m0⟩) ?_
      clear hK K
      iterate 1
        first
          | (refine mv_free ?_ (Or.inl ⟨by rfl, ?_⟩) (⟨c2, m0⟩) ?_
             rotate_left 1
             · intro u
               go_simp
               try simp only [d1]
               try simp only [d2]
               try simp only [d3]
               try with_reducible rfl
             simp only [Act.put, List.setIfInBounds_toArray, List.set_cons_zero, List.set_cons_succ])
          | (refine mv_free _ (Or.inr ⟨by rfl, rfl⟩) (⟨c2, m0⟩) ?_
             simp only [Act.put, List.setIfInBounds_toArray, List.set_cons_zero, List.set_cons_succ])
      iterate 1
        first
          | (refine mv_take ?_ (Or.inl ⟨by rfl, ?_⟩) (⟨c2, m0⟩) ?_
             rotate_left 1
             · intro u hu
               (try dsimp only at hu)
               go_simp
               try with_reducible rfl
             simp only [Act.put, List.setIfInBounds_toArray, List.set_cons_zero, List.set_cons_succ])
          | (refine mv_take _ (Or.inr ⟨by rfl, rfl⟩) (⟨c2, m0⟩) ?_
             simp only [Act.put, List.setIfInBounds_toArray, List.set_cons_zero, List.set_cons_succ])
      iterate 2
        first
          | (refine mv_free ?_ (Or.inl ⟨by rfl, ?_⟩) (⟨c2, m0⟩) ?_
             rotate_left 1
             · intro u
               go_simp
               try simp only [d1]
               try simp only [d2]
               try simp only [d3]
               try with_reducible rfl
             simp only [Act.put, List.setIfInBounds_toArray, List.set_cons_zero, List.set_cons_succ])
          | (refine mv_free _ (Or.inr ⟨by rfl, rfl⟩) (⟨c2, m0⟩) ?_
             simp only [Act.put, List.setIfInBounds_toArray, List.set_cons_zero, List.set_cons_succ])
      refine mv_done ?_
      go_wp2
      go_ret2
      exact ⟨rfl, by first | exact HW.out _ k5.out | (rw [← eB]; exact HW.out _ k5.out)⟩
end Go.Proofs.YtfejdbmamaggpaaDoor
