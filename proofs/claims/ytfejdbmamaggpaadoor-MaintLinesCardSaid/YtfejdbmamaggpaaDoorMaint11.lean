/- Package maint: Line of any event; walked. -/
import Derived.Test.YtfejdbmamaggpaaDoorMaint7
import Derived.Test.YtfejdbmamaggpaaDoorMaint10
namespace Go.Proofs.YtfejdbmamaggpaaDoor
open Go.ChangeShapes Go.WideShapes Go.ChangeAt Go.RowKit
set_option linter.unusedVariables false
set_option linter.unusedSimpArgs false
theorem md_at0 (u : World) : (Instr.index 120 (.agg #[.string ⟨#[119, 97, 114, 109, 105, 110, 103]⟩, .string ⟨#[100, 117, 97, 108]⟩, .string ⟨#[111, 110, 108, 121, 49]⟩, .string ⟨#[111, 110, 108, 121, 50]⟩, .string ⟨#[115, 121, 110, 116, 104, 101, 116, 105, 99]⟩, .string ⟨#[108, 111, 115, 116]⟩]) (.int .i64 0)).run Tryd.prog u = .ok (.string ⟨#[119, 97, 114, 109, 105, 110, 103]⟩) u := by kernel_rfl
theorem md_at1 (u : World) : (Instr.index 120 (.agg #[.string ⟨#[119, 97, 114, 109, 105, 110, 103]⟩, .string ⟨#[100, 117, 97, 108]⟩, .string ⟨#[111, 110, 108, 121, 49]⟩, .string ⟨#[111, 110, 108, 121, 50]⟩, .string ⟨#[115, 121, 110, 116, 104, 101, 116, 105, 99]⟩, .string ⟨#[108, 111, 115, 116]⟩]) (.int .i64 1)).run Tryd.prog u = .ok (.string ⟨#[100, 117, 97, 108]⟩) u := by kernel_rfl
theorem md_at2 (u : World) : (Instr.index 120 (.agg #[.string ⟨#[119, 97, 114, 109, 105, 110, 103]⟩, .string ⟨#[100, 117, 97, 108]⟩, .string ⟨#[111, 110, 108, 121, 49]⟩, .string ⟨#[111, 110, 108, 121, 50]⟩, .string ⟨#[115, 121, 110, 116, 104, 101, 116, 105, 99]⟩, .string ⟨#[108, 111, 115, 116]⟩]) (.int .i64 2)).run Tryd.prog u = .ok (.string ⟨#[111, 110, 108, 121, 49]⟩) u := by kernel_rfl
theorem md_at3 (u : World) : (Instr.index 120 (.agg #[.string ⟨#[119, 97, 114, 109, 105, 110, 103]⟩, .string ⟨#[100, 117, 97, 108]⟩, .string ⟨#[111, 110, 108, 121, 49]⟩, .string ⟨#[111, 110, 108, 121, 50]⟩, .string ⟨#[115, 121, 110, 116, 104, 101, 116, 105, 99]⟩, .string ⟨#[108, 111, 115, 116]⟩]) (.int .i64 3)).run Tryd.prog u = .ok (.string ⟨#[111, 110, 108, 121, 50]⟩) u := by kernel_rfl
theorem md_at4 (u : World) : (Instr.index 120 (.agg #[.string ⟨#[119, 97, 114, 109, 105, 110, 103]⟩, .string ⟨#[100, 117, 97, 108]⟩, .string ⟨#[111, 110, 108, 121, 49]⟩, .string ⟨#[111, 110, 108, 121, 50]⟩, .string ⟨#[115, 121, 110, 116, 104, 101, 116, 105, 99]⟩, .string ⟨#[108, 111, 115, 116]⟩]) (.int .i64 4)).run Tryd.prog u = .ok (.string ⟨#[115, 121, 110, 116, 104, 101, 116, 105, 99]⟩) u := by kernel_rfl
theorem md_at5 (u : World) : (Instr.index 120 (.agg #[.string ⟨#[119, 97, 114, 109, 105, 110, 103]⟩, .string ⟨#[100, 117, 97, 108]⟩, .string ⟨#[111, 110, 108, 121, 49]⟩, .string ⟨#[111, 110, 108, 121, 50]⟩, .string ⟨#[115, 121, 110, 116, 104, 101, 116, 105, 99]⟩, .string ⟨#[108, 111, 115, 116]⟩]) (.int .i64 5)).run Tryd.prog u = .ok (.string ⟨#[108, 111, 115, 116]⟩) u := by kernel_rfl
theorem md_at (k : Nat) (h : k < 6) (u : World) : (Instr.index 120 (.agg #[.string ⟨#[119, 97, 114, 109, 105, 110, 103]⟩, .string ⟨#[100, 117, 97, 108]⟩, .string ⟨#[111, 110, 108, 121, 49]⟩, .string ⟨#[111, 110, 108, 121, 50]⟩, .string ⟨#[115, 121, 110, 116, 104, 101, 116, 105, 99]⟩, .string ⟨#[108, 111, 115, 116]⟩]) (.int .i64 (k : Int))).run Tryd.prog u = .ok (.string (mdN k)) u := by
  match k, h with
  | 0, _ => exact md_at0 u
  | 1, _ => exact md_at1 u
  | 2, _ => exact md_at2 u
  | 3, _ => exact md_at3 u
  | 4, _ => exact md_at4 u
  | 5, _ => exact md_at5 u
  | k + 6, h => exact absurd h (by omega)
theorem md_len (k : Nat) : (mdN k).size ≤ 20 := by
  by_cases h : k < 6
  · have : ∀ k, k < 6 → (mdN k).size ≤ 20 := by decide +kernel
    exact this k h
  · match k, h with
    | k + 6, _ => show (⟨#[]⟩ : ByteArray).size ≤ 20; decide
    | 0, h => omega
    | 1, h => omega
    | 2, h => omega
    | 3, h => omega
    | 4, h => omega
    | 5, h => omega
theorem nm_len (c : Int) : (nmS c).size ≤ 20 := by
  have : ∀ k, k < 7 → (mN k).size ≤ 20 := by decide +kernel
  unfold nmS
  repeat' split
  all_goals exact this _ (by omega)
theorem sz_app (a b : ByteArray) : (a ++ b).size = a.size + b.size := by simp
theorem it_sz {t : Int} (h0 : 0 ≤ t) (h1 : t ≤ 1000000) : (⟨(Lib.itoa t).toArray⟩ : ByteArray).size ≤ 7 := by
  rw [mk_len]
  have e : Lib.itoa t = Lib.decDigits t.toNat := by unfold Lib.itoa; rw [if_neg (by omega)]
  rw [e]
  exact dd_len 6 t.toNat (by have : (10 : Nat) ^ (6 + 1) = 10000000 := by decide
                             omega)
/-- What Line answers. -/
def lnT (t c a : Int) : ByteArray := if rpB t c a = true then lnS t c a else ⟨#[]⟩
theorem lnT_len (t c a : Int) : (lnT t c a).size ≤ 60 := by
  unfold lnT
  cases h : rpB t c a with
  | false =>
    show (⟨#[]⟩ : ByteArray).size ≤ 60
    decide
  | true =>
    obtain ⟨_, ⟨h0, h1⟩, _, _⟩ := (rpB_iff _ _ _).1 h
    have e1 := it_sz h0 h1
    have e2 := nm_len c
    have e3 := md_len a.toNat
    have e4 : (⟨#[116]⟩ : ByteArray).size = 1 := rfl
    have e5 : (⟨#[32]⟩ : ByteArray).size = 1 := rfl
    simp only [if_true]
    unfold lnS lnX
    split <;> simp only [sz_app] <;> omega
set_option maxRecDepth 100000 in
set_option maxHeartbeats 8000000 in
theorem mlinE (t c a : Int) (w : World) (ht : Pw10 w) : Calls Tryd.prog 35 #[.agg #[.int .i64 t, .int .i64 c, .int .i64 a]] w fun e w' => e = .returned (.tuple #[.string (lnT t c a), .bool (rpB t c a)]) ∧ Below w.heap.size w w' := by
  obtain ⟨V, eV, hbV, HC⟩ := ev_box w t c a
  have HW := Lib.hid (fun x (k : Below V.heap.size V x) => (hbV.trans (k.mono hbV.size) : Below w.heap.size w x))
  have RP := fun u => mrep t c a u
  have NM := fun u => mname c u
  have HM := fun u => mhas c u
  have MM := Lib.hid (fun u => mmodes u)
  obtain ⟨B, eB⟩ : ∃ B, w.heap.size = B := ⟨_, rfl⟩
  rw [eB] at HC hbV
  replace HC := Lib.hid HC
  replace eV := Lib.hid eV
  cases hR : rpB t c a with
  | false =>
    have e0 : lnT t c a = ⟨#[]⟩ := if_neg (by rw [hR]; simp)
    rw [e0]
    rw [hR] at RP
    replace RP := Lib.hid RP
    replace NM := Lib.hid NM
    replace HM := Lib.hid HM
    obtain ⟨c0, c1, c2⟩ := HC.out V (Below.refl _ _)
    clear hbV hR e0
    go_enter Tryd.func35, Tryd.ntmps35
    go_upto_region 1 with (fail)
    try rw [eB]
    rw [← eV.out]
    go_wp2_with fail
    refine (RP.out V).mono ?_
    rintro e u1 ⟨rfl, hb⟩
    have k1 := Lib.hid (show Below V.heap.size V u1 from hb)
    clear hb c0 c1 c2
    go_wp2
    go_ret2
    exact ⟨rfl, HW.out _ k1.out⟩
  | true =>
    obtain ⟨⟨kk, hk, hkc⟩, ⟨h0, h1⟩, h2, h3⟩ := (rpB_iff _ _ _).1 hR
    have e0 : lnT t c a = lnS t c a := if_pos hR
    rw [e0]
    rw [hR] at RP
    have hnm : nmB c = true := (nmB_iff c).2 ⟨kk, hk, hkc⟩
    rw [hnm] at NM
    have HS := Lib.hid (fun (s : ByteArray) (h : true = true → ∃ k, k < 7 ∧ mC k = c ∧ mN k = s) => (show nmS c = s by
      obtain ⟨k, q1, q2, q3⟩ := h rfl
      rw [← q2, nmS_of q1, q3]))
    have IT := Lib.hid (fun x (k : Below V.heap.size V x) => mitoa t (by omega) (by omega) x (ht.bel (HW.out x k)))
    replace RP := Lib.hid RP
    replace NM := Lib.hid NM
    have s1 := it_sz h0 h1
    have s2 := nm_len c
    have s3 := md_len a.toNat
    obtain ⟨X1, eX1⟩ : ∃ z, (⟨(Lib.itoa t).toArray⟩ : ByteArray) = z := ⟨_, rfl⟩
    have s4 : (⟨#[116]⟩ ++ X1 : ByteArray).size = 1 + X1.size := sz_app _ _
    have s5 : (⟨#[116]⟩ ++ X1 ++ ⟨#[32]⟩ : ByteArray).size = 2 + X1.size := by rw [sz_app, s4]; show 1 + X1.size + 1 = _; omega
    have s6 : (⟨#[116]⟩ ++ X1 ++ ⟨#[32]⟩ ++ nmS c : ByteArray).size = 2 + X1.size + (nmS c).size := by rw [sz_app, s5]
    have s7 : (⟨#[32]⟩ ++ mdN a.toNat : ByteArray).size = 1 + (mdN a.toNat).size := sz_app _ _
    cases hM : hmB c with
    | false =>
      have e1 : lnS t c a = lnX t c := if_neg (by rw [hM]; simp)
      rw [e1]
      unfold lnX
      rw [eX1] at IT s1 ⊢
      rw [hM] at HM
      replace HM := Lib.hid HM
      generalize nmS c = X2 at *
      generalize mdN a.toNat = X3 at *
      obtain ⟨c0, c1, c2⟩ := HC.out V (Below.refl _ _)
      clear hbV hR e0 e1 hnm hkc h2 h3 hM ht
      go_enter Tryd.func35, Tryd.ntmps35
      go_upto_region 1 with (fail)
      try rw [eB]
      rw [← eV.out]
      go_wp2_with fail
      refine (RP.out V).mono ?_
      rintro e u1 ⟨rfl, hb⟩
      have k1 := Lib.hid (show Below V.heap.size V u1 from hb)
      clear hb c0 c1 c2
      obtain ⟨c0, c1, c2⟩ := HC.out u1 k1.out
      go_wp2_with fail
      refine (NM.out u1).mono ?_
      rintro e u2 ⟨⟨s, rfl, hs⟩, hb⟩
      obtain rfl := HS.out s hs
      have k2 := Lib.hid (show Below V.heap.size V u2 from k1.out.trans (hb.mono k1.out.size))
      clear hb c0 c1 c2
      obtain ⟨c0, c1, c2⟩ := HC.out u2 k2.out
      go_wp2_with fail
      refine (IT.out u2 k2.out).mono ?_
      rintro e u3 ⟨rfl, hb⟩
      have k3 := Lib.hid (show Below V.heap.size V u3 from k2.out.trans (hb.mono k2.out.size))
      clear hb c0 c1 c2
      obtain ⟨c0, c1, c2⟩ := HC.out u3 k3.out
      go_wp2_with fail
      refine (HM.out _).mono ?_
      rintro e u4 ⟨rfl, rfl⟩
      go_wp2
      go_ret2
      exact ⟨rfl, HW.out _ k3.out⟩
    | true =>
      have e1 : lnS t c a = lnX t c ++ (⟨#[32]⟩ ++ mdN a.toNat) := if_pos hM
      rw [e1]
      unfold lnX
      rw [eX1] at IT s1 ⊢
      rw [hM] at HM h3
      simp only [if_true] at h3
      replace HM := Lib.hid HM
      obtain ⟨q, rfl⟩ : ∃ q : Nat, a = q := ⟨a.toNat, by omega⟩
      have MI := fun u => md_at q (by omega) u
      rw [show ((q : Int)).toNat = q by omega] at s3 s7 ⊢
      generalize nmS c = X2 at *
      generalize mdN q = X3 at *
      obtain ⟨Y1, eY⟩ : ∃ z, (⟨#[116]⟩ ++ X1 ++ ⟨#[32]⟩ ++ X2 : ByteArray) = z := ⟨_, rfl⟩
      have g1 : (9223372036854775807 < 1 + X3.size) = False := eq_false (by omega)
      have g2 : (9223372036854775807 < Y1.size + (1 + X3.size)) = False := eq_false (by rw [← eY, s6]; omega)
      have G1 := Lib.hid g1
      have G2 := Lib.hid g2
      rw [eY]
      have EY := Lib.hid eY
      clear eY g1 g2
      obtain ⟨c0, c1, c2⟩ := HC.out V (Below.refl _ _)
      clear hbV hR e0 e1 hnm hkc hM ht
      go_enter Tryd.func35, Tryd.ntmps35
      go_upto_region 1 with (fail)
      try rw [eB]
      rw [← eV.out]
      go_wp2_with fail
      refine (RP.out V).mono ?_
      rintro e u1 ⟨rfl, hb⟩
      have k1 := Lib.hid (show Below V.heap.size V u1 from hb)
      clear hb c0 c1 c2
      obtain ⟨c0, c1, c2⟩ := HC.out u1 k1.out
      go_wp2_with fail
      refine (NM.out u1).mono ?_
      rintro e u2 ⟨⟨s, rfl, hs⟩, hb⟩
      obtain rfl := HS.out s hs
      have k2 := Lib.hid (show Below V.heap.size V u2 from k1.out.trans (hb.mono k1.out.size))
      clear hb c0 c1 c2
      obtain ⟨c0, c1, c2⟩ := HC.out u2 k2.out
      go_wp2_with fail
      refine (IT.out u2 k2.out).mono ?_
      rintro e u3 ⟨rfl, hb⟩
      have k3 := Lib.hid (show Below V.heap.size V u3 from k2.out.trans (hb.mono k2.out.size))
      clear hb c0 c1 c2
      obtain ⟨c0, c1, c2⟩ := HC.out u3 k3.out
      go_wp2_with fail
      refine (HM.out _).mono ?_
      rintro e u4 ⟨rfl, rfl⟩
      go_upto_region 6 with (fail)
      rw [EY.out]
      have g1 := G1.out
      have g2 := G2.out
      clear s4 s5 s6 s7 s1 s2
      refine region_moves (fun y => y.cell? ⟨B, 2, none⟩ = some (.int .i64 (q : Int))) [] [(.free, 0), (.free, 2), (.take, 3), (.step, 1), (.step, 4), (.free, 5), (.free, 6), (.free, 7)] _ (by kernel_rfl) (by kernel_rfl) (by kernel_rfl) (by kernel_rfl) (by decide) rfl (fun _ _ _ _ _ h => h) ?_
      simp only [List.filterMap_cons, List.filterMap_nil, List.getElem?_toArray, List.getElem?_cons_zero, List.getElem?_cons_succ, Option.map_some]
      iterate 2
        first
          | (refine mv_free ?_ (Or.inl ⟨by rfl, ?_⟩) (c2) ?_
             rotate_left 1
             · intro u
               go_simp
               try simp only [d1]
               try simp only [d2]
               try simp only [d3]
               try with_reducible rfl
             simp only [Act.put, List.setIfInBounds_toArray, List.set_cons_zero, List.set_cons_succ])
          | (refine mv_free _ (Or.inr ⟨by rfl, rfl⟩) (c2) ?_
             simp only [Act.put, List.setIfInBounds_toArray, List.set_cons_zero, List.set_cons_succ])
      iterate 1
        first
          | (refine mv_take ?_ (Or.inl ⟨by rfl, ?_⟩) (c2) ?_
             rotate_left 1
             · intro u hu
               (try dsimp only at hu)
               go_simp
               try with_reducible rfl
             simp only [Act.put, List.setIfInBounds_toArray, List.set_cons_zero, List.set_cons_succ])
          | (refine mv_take _ (Or.inr ⟨by rfl, rfl⟩) (c2) ?_
             simp only [Act.put, List.setIfInBounds_toArray, List.set_cons_zero, List.set_cons_succ])
      refine mv_step (fun K hK => ?_)
      go_simp
      refine (MM.out _).mono ?_
      rintro e u5 ⟨rfl, hb⟩
      have k5 := Lib.hid (show Below V.heap.size V u5 from k3.out.drew.trans (hb.mono k3.out.size))
      clear hb c0 c1 c2
      obtain ⟨c0, c1, c2⟩ := HC.out u5 k5.out
      go_wp2_with fail
      refine hK.out _ _ _ (fun y hy => hy) (c2) ?_
      clear hK K
      refine mv_step (fun K hK => ?_)
      go_simp
      refine hK.out _ _ _ (fun y hy => hy) (c2) ?_
      clear hK K
      iterate 3
        first
          | (refine mv_free ?_ (Or.inl ⟨by rfl, ?_⟩) (c2) ?_
             rotate_left 1
             · intro u
               go_simp
               try simp only [d1]
               try simp only [d2]
               try simp only [d3]
               try with_reducible rfl
             simp only [Act.put, List.setIfInBounds_toArray, List.set_cons_zero, List.set_cons_succ])
          | (refine mv_free _ (Or.inr ⟨by rfl, rfl⟩) (c2) ?_
             simp only [Act.put, List.setIfInBounds_toArray, List.set_cons_zero, List.set_cons_succ])
      refine mv_done ?_
      go_wp2
      go_ret2
      exact ⟨rfl, by first | exact HW.out _ k5.out | (rw [← eB]; exact HW.out _ k5.out)⟩
end Go.Proofs.YtfejdbmamaggpaaDoor
