/- The law ClimbRates; walked. -/
import Derived.Test.YtflcagcekhgjcaaClimb6
import Derived.Deep.Cut
namespace Go.Proofs.Ytflcagcekhgjcaa
open Go.ChangeShapes Go.WideShapes Go.ChangeAt Go.RowKit
set_option linter.unusedVariables false
set_option linter.unusedSimpArgs false
set_option maxRecDepth 100000 in
set_option maxHeartbeats 8000000 in
theorem law_ClimbRates (sz : Int) (a : Option Addr) (cap : Nat) (H : List Int) (w : World) (hr : RowIs .i64 w a H) (hL : H.length ≤ maxLen) : Calls Try.prog 12 #[.int .i64 sz, .slice a H.length cap] w fun e w' => e = .returned (.bool true) ∧ Below w.heap.size w w' := by
  have hL' : (H.length : Int) ≤ 9223372036854775807 := by unfold maxLen at hL; omega
  have LV := Lib.hid (fun u => lives27 u)
  rcases (show (sz < 1 ∨ 64 < sz) ∨ (1 ≤ sz ∧ sz ≤ 64) by omega) with g | ⟨g, g2⟩
  · have NW := Lib.hid (fun u => cmnew_no sz u g)
    clear g hr hL hL'
    go_enter Try.func12, Try.ntmps12
    go_wp2_with fail
    refine (NW.out _).mono ?_
    rintro e w1 ⟨rfl, rfl⟩
    go_wp2_with fail
    refine (LV.out _).mono ?_
    rintro e w20 ⟨rfl, hb20⟩
    have hb21 := Lib.hid ((Below.refl w.heap.size w).trans (hb20.mono ((Below.refl w.heap.size w)).size))
    clear hb20
    go_wp2
    go_ret
    exact ⟨rfl, hb21.out⟩
  have NW := Lib.hid (fun u => cmnew_ok sz u ⟨g, g2⟩)
  by_cases h150 : 150 < H.length
  · have d150 : (150 : Int) < (H.length : Int) := by omega
    clear hr hL hL' h150
    go_enter Try.func12, Try.ntmps12
    go_wp2_with fail
    refine (NW.out _).mono ?_
    rintro e w1 ⟨b, hbb, rfl, m1, hb1⟩
    go_wp2_with fail
    refine (LV.out _).mono ?_
    rintro e w20 ⟨rfl, hb20⟩
    have hb21 := Lib.hid (hb1.trans (hb20.mono (hb1).size))
    clear hb20
    go_wp2
    go_ret
    exact ⟨rfl, hb21.out⟩
  have d150 : (H.length : Int) ≤ 150 := by omega
  have RW := Lib.hid (fun u (h : Below w.heap.size w u) => hr.below h)
  have PT := Lib.hid (fun (b : Nat) (L : List Int) (h : Int) u (m : Mt b sz L u) => cmput2 h u m)
  have CL := Lib.hid (fun (h : Int) u => c19 h u)
  have RF := Lib.hid (fun (b : Nat) (L : List Int) u (m : Mt b sz L u) (z : L.length < 2) => cmrate_few u m z)
  have MF := Lib.hid (fun (b : Nat) (L : List Int) u (m : Mt b sz L u) (z : L.length < 2) => cmminute_few u m z)
  have RT := Lib.hid (fun (b : Nat) (L : List Int) u (m : Mt b sz L u) (z : 2 ≤ L.length) => cmrate u m z)
  have MT := Lib.hid (fun (b : Nat) (L : List Int) u (m : Mt b sz L u) (z : 2 ≤ L.length) => cmminute u m z)
  have ST := Lib.hid (fun (b : Nat) (L : List Int) u (m : Mt b sz L u) => cmsteep u m)
  have LE := Lib.hid (fun (b : Nat) (L : List Int) u (m : Mt b sz L u) => cmlen u m)
  have RS := Lib.hid (fun (b : Nat) (L : List Int) u (m : Mt b sz L u) => cmreset u m)
  have AB := Lib.hid (fun n u h => cabs n u h)
  have F1 := Lib.hid (fun a b u h1 h2 h3 => fl01 a b u h1 h2 h3)
  clear hr hL hL' h150
  go_enter Try.func12, Try.ntmps12
  go_wp2_with fail
  refine (NW.out _).mono ?_
  rintro e w1 ⟨b, hbb, rfl, m1, hb1⟩
  obtain ⟨B, eB⟩ : ∃ B, B = w1.heap.size := ⟨_, rfl⟩
  have hB := Lib.hid (show w.heap.size ≤ b ∧ b < B ∧ w.heap.size ≤ B from ⟨hbb, by rw [eB]; exact m1.lt, by rw [eB]; exact hb1.size⟩)
  have S0 := Lib.hid (show Mt b sz [] w1 ∧ Ow B (.slice none 0 0) [] w1 ∧ B ≤ w1.heap.size from ⟨m1, Ow.nil _ _, Nat.le_of_eq eB⟩)
  clear m1 hbb eB
  go_wp2_with fail
  go_loopw [7, 8] (fun l i v => ∃ (k : Nat) (x : Value) (L : List Int), k ≤ H.length ∧ l = x ∧ i = .int .i64 (k : Int) ∧ Below w.heap.size w v ∧ Hid (Mt b sz L v ∧ Ow B x L v ∧ B ≤ v.heap.size)) (fun _ i _ => H.length - (intOf i).toNat)
  case atStart => exact ⟨0, _, [], by omega, rfl, rfl, hb1, S0⟩
  case round =>
    clear hb1 S0
    obtain ⟨k, x, L, hk, ex, rfl, hb, hS⟩ := hrel
    replace ex := ex.symm
    subst ex
    by_cases hlt : k < H.length
    · obtain ⟨br, or_, rfl, -, c1⟩ := (RW.out _ hb).at hlt
      have h1 : (k : Int) < (H.length : Int) := by omega
      have h0 : 0 ≤ (k : Int) := by omega
      obtain ⟨hm, hO, hBz⟩ := hS.out
      clear hS
      have hsL := hm.len
      have hs1 := Lib.hid hm.len
      have L65 := Lib.hid (show L.length ≤ 65 by omega)
      clear hsL
      generalize wr = v0 at *
      replace hO := Lib.hid hO
      replace hBz := Lib.hid hBz
      obtain ⟨y, ey⟩ : ∃ y, y = H.getD k 0 := ⟨_, rfl⟩
      rw [← ey] at c1
      replace ey := Lib.hid ey
      go_wp2_with fail
      refine (PT.out b L y _ hm).mono ?_
      rintro e w2 ⟨rfl, m2, bs2, mf2⟩
      have hb2 := below_put hb bs2 hB.out.1
      have hO2 := Lib.hid (hO.out.kept (w' := w2) (fun g q hg => bs2.block g hg (by have := (hO.out.lt q).1; have := hB.out; omega)))
      have hx := Lib.hid (fun g (q : owB x = some g) => show B ≤ g ∧ g < v0.heap.size from hO.out.lt q)
      have hz2 := Lib.hid (show B ≤ w2.heap.size from Nat.le_trans hBz.out bs2.size)
      have ml := mtN_len y g hm.len
      replace m2 := Lib.hid m2
      replace mf2 := Lib.hid mf2
      have c2 : w2.cell? ⟨br, or_ + k, none⟩ = some (.int .i64 y) := by
        obtain ⟨b9, o9, e9, -, c9⟩ := (RW.out _ hb2).at hlt
        injection e9 with e9
        injection e9 with e9 e10
        subst e9 e10
        rw [ey.out]
        exact c9
      clear hb bs2 c1 hO hBz hm
      go_wp2_with fail
      refine (CL.out y _).mono ?_
      rintro e w3 ⟨rfl, rfl⟩
      have hO3 := Lib.hid (hO2.out.bel ((Below.refl w2.heap.size w2).alloc (Nat.le_refl _) (.cells #[.int .i64 (cmH y)] 2)))
      have hbA := Lib.hid (hb2.trans (((Below.refl w2.heap.size w2).alloc (Nat.le_refl _) (.cells #[.int .i64 (cmH y)] 2)).mono hb2.size))
      have m3 := Lib.hid (m2.out.bel ((Below.refl w2.heap.size w2).alloc (Nat.le_refl _) (.cells #[.int .i64 (cmH y)] 2)))
      have mf3 := Lib.hid (show MtF b sz (mtN sz L y) v0.heap.size (w2.alloc (.cells #[.int .i64 (cmH y)] 2)) from by
        obtain ⟨ao, q1, q2, q3, q4⟩ := mf2.out
        exact ⟨ao, q1.alloc _, q2.below ((Below.refl w2.heap.size w2).alloc (Nat.le_refl _) _), q3, q4⟩)
      clear m2 mf2 hO2 hb2 c2
      go_upto_region 10 with (first | (at_builtin; refine wpList_append_ow _ rfl (.tmp 42) (.tmp 48) rfl B x L (cmH y) rfl hO3.out (by have := hz2.out; simp; omega) _ rfl (by go_simp) (by have := L65.out; omega) ?_; intro x2 w5 hO5 hk5 hx5))
      have hb5 : Below w.heap.size w w5 := hbA.out.trans ((hk5.below hO3.out (by have := hz2.out; simp; omega)).mono hB.out.2.2)
      have m5 := m3.out.aside mf3.out hk5 hx.out hB.out.2.1
      have hz5 : B ≤ w5.heap.size := Nat.le_trans (by have := hz2.out; simp; omega) hk5.size
      have emt : mtN sz L y = (L ++ [cmH y]).drop (L.length + 1 - (sz.toNat + 1)) := rfl
      clear hx hO3 hbA m3 mf3 hk5 hx5 hz2
      have hl5 : (L ++ [cmH y]).length = L.length + 1 := by simp
      obtain ⟨g5, off5, cap5, rfl, hcap5⟩ : ∃ g5 off5 cap5, x2 = .slice (some ⟨g5, off5, none⟩) (L.length + 1) cap5 ∧ L.length + 1 ≤ cap5 := by
        rcases hO5 with ⟨_, e⟩ | ⟨g5, off5, cap5, cur, e, _, _, hle, _⟩
        · rw [e] at hl5; simp at hl5
        · rw [hl5] at e hle; exact ⟨_, _, _, e, hle⟩
      have n1 : IntKind.i64.wrap (sz + 1) = sz + 1 := by rw [IntKind.wrap_i64]; omega
      have l65 := L65.out
      have hcapI : (L.length : Int) + 1 ≤ (cap5 : Int) := by omega
      rw [← hl5] at hO5
      by_cases hc : (L.length : Int) ≤ sz
      · have e2 : mtN sz L y = L ++ [cmH y] := by rw [emt, show L.length + 1 - (sz.toNat + 1) = 0 by omega]; rfl
        rw [e2] at m5
        have hd : ¬ sz + 1 < (L.length : Int) + 1 := by omega
        generalize L ++ [cmH y] = M at *
        have hl6 : L.length + 1 = M.length := hl5.symm
        have hl7 : (L.length : Int) + 1 = (M.length : Int) := by omega
        clear emt ml e2
        rw [hl6]
        rw [hl7] at hd hcapI
        have hd' : ¬ sz + 1 < (M.length : Int) := by omega
        go_upto_region 12 with (fail)
        have lM := Lib.hid (show 1 ≤ M.length ∧ M.length ≤ 65 from by omega)
        clear hl5 hcap5 hcapI l65 L65
        replace m5 := Lib.hid m5
        replace hO5 := Lib.hid hO5
        replace hz5 := Lib.hid hz5
        obtain ⟨m1, em1⟩ : ∃ m1 : Nat, m1 + 1 = M.length := ⟨M.length - 1, by have := lM.out; omega⟩
        have nL : IntKind.i64.wrap ((M.length : Int) - 1) = (m1 : Int) := by have := lM.out; rw [IntKind.wrap_i64]; omega
        have eM := Lib.hid (show (M.length : Int) - 1 = (m1 : Int) from by omega)
        replace em1 := Lib.hid em1
        by_cases h2M : M.length < 2
        · skip
          have RFx := Lib.hid (RF.out b M _ m5.out (by omega))
          go_wp2_with fail
          refine RFx.out.mono ?_
          rintro e w6 ⟨rfl, rfl⟩
          have MFx := Lib.hid (MF.out b M _ m5.out (by omega))
          go_wp2_with fail
          refine MFx.out.mono ?_
          rintro e w7 ⟨rfl, rfl⟩
          have mm := m5
          have oo := hO5
          have zz := hz5
          have hb6 := hb5
          clear m5 hO5 hz5 hb5
          go_wp2_with fail
          go_loopw [14, 15] (fun s i v => ∃ t : Nat, 1 ≤ t ∧ t ≤ M.length ∧ s = .int .i64 (stN M t) ∧ i = .int .i64 (t : Int) ∧ Below w.heap.size w v ∧ Hid (Mt b sz M v ∧ Ow B (.slice (some ⟨g5, off5, none⟩) M.length cap5) M v ∧ B ≤ v.heap.size)) (fun _ i _ => M.length - (intOf i).toNat)
          case atStart => exact ⟨1, by omega, by have := lM.out; omega, rfl, rfl, hb6, Lib.hid ⟨mm.out, oo.out, zz.out⟩⟩
          case round =>
            clear hb6 mm oo zz
            obtain ⟨t, ht1, ht, rfl, rfl, hb, hS⟩ := hrel
            have mm := hS.out.1
            have lMx := lM.out
            by_cases hlt2 : t < M.length
            · have hs := stN_bd mm.bd t (by omega)
              have b1 := mm.bd t hlt2
              have b2 := mm.bd (t - 1) (by omega)
              have SN := Lib.hid (show stN M (t + 1) = cmF (stN M t) (M.getD t 0 - M.getD (t - 1) 0) from by
                show (if t = 0 then 0 else cmF (stN M t) (M.getD t 0 - M.getD (t - 1) 0)) = _
                rw [if_neg (by omega)])
              obtain ⟨ao, cp, e9, hr9, -⟩ := hS.out.2.1.row
              injection e9 with e9 e10 e11
              subst e9
              rcases hr9 with hr9 | ⟨g9, o9, e9, hgl, hc⟩
              · rw [hr9] at hlt2; simp at hlt2
              injection e9 with e9
              injection e9 with e9 e12
              subst e9 e12
              have r1 := hc t hlt2
              have r2 := hc (t - 1) (by omega)
              obtain ⟨m, hm⟩ : ∃ m, m = t - 1 := ⟨_, rfl⟩
              rw [← hm] at r2 SN b2
              generalize M.getD m 0 = x1 at *
              generalize M.getD t 0 = y1 at *
              generalize stN M t = s at *
              have n1 : IntKind.i64.wrap ((t : Int) - 1) = (m : Int) := by rw [IntKind.wrap_i64]; omega
              obtain ⟨d, hd⟩ : ∃ d, d = y1 - x1 := ⟨_, rfl⟩
              have n2 : IntKind.i64.wrap (y1 - x1) = d := by rw [IntKind.wrap_i64]; omega
              rw [← hd] at SN
              have A9 := Lib.hid (fun u => AB.out d u (by omega))
              have eA : cmF s d = max s (if d < 0 then -d else d) := by rw [cmF_max]; omega
              obtain ⟨z, hz⟩ : ∃ z, z = (if d < 0 then -d else d) := ⟨_, rfl⟩
              rw [← hz] at eA A9
              have n3 : max s z = cmF s d := eA.symm
              have n3' : (if s < z then z else s) = cmF s d := by rw [← n3]; omega
              have n4 : 0 ≤ (m : Int) := by omega
              have n5 : (m : Int) < (M.length : Int) := by omega
              have n6 : m < M.length := by omega
              have n7 : (t : Int) < (M.length : Int) := by omega
              have n8 : 0 ≤ (t : Int) := by omega
              generalize cmF s d = q at *
              replace hd := Lib.hid hd
              replace hz := Lib.hid hz
              clear hs b1 b2 hc mm hgl hm eA e10 e11
              go_wp2_with fail
              refine region_moves (fun u => u.cell? ⟨g5, off5 + t, none⟩ = some (.int .i64 y1) ∧ u.cell? ⟨g5, off5 + m, none⟩ = some (.int .i64 x1)) [] [(.free, 0), (.free, 1), (.free, 2), (.free, 3), (.take, 4), (.free, 5), (.free, 6), (.free, 7), (.free, 8), (.take, 9), (.free, 10), (.step, 11), (.free, 12), (.free, 13)] _ (by kernel_rfl) (by kernel_rfl) (by kernel_rfl) (by kernel_rfl) (by decide) rfl (fun _ _ _ _ _ h => h) ?_
              simp only [List.filterMap_cons, List.filterMap_nil, List.getElem?_toArray, List.getElem?_cons_zero, List.getElem?_cons_succ, Option.map_some]
              iterate 4
                first
                  | (refine mv_free ?_ (Or.inl ⟨by rfl, ?_⟩) (⟨r1, r2⟩) ?_
                     rotate_left 1
                     · intro u
                       go_simp
                       try simp only [d1]
                       try simp only [d2]
                       try simp only [d3]
                       try with_reducible rfl
                     simp only [Act.put, List.setIfInBounds_toArray, List.set_cons_zero, List.set_cons_succ])
                  | (refine mv_free _ (Or.inr ⟨by rfl, rfl⟩) (⟨r1, r2⟩) ?_
                     simp only [Act.put, List.setIfInBounds_toArray, List.set_cons_zero, List.set_cons_succ])
              iterate 1
                first
                  | (refine mv_take ?_ (Or.inl ⟨by rfl, ?_⟩) (⟨r1, r2⟩) ?_
                     rotate_left 1
                     · intro u hu
                       (try dsimp only at hu)
                       go_simp
                       try with_reducible rfl
                     simp only [Act.put, List.setIfInBounds_toArray, List.set_cons_zero, List.set_cons_succ])
                  | (refine mv_take _ (Or.inr ⟨by rfl, rfl⟩) (⟨r1, r2⟩) ?_
                     simp only [Act.put, List.setIfInBounds_toArray, List.set_cons_zero, List.set_cons_succ])
              iterate 4
                first
                  | (refine mv_free ?_ (Or.inl ⟨by rfl, ?_⟩) (⟨r1, r2⟩) ?_
                     rotate_left 1
                     · intro u
                       go_simp
                       try simp only [d1]
                       try simp only [d2]
                       try simp only [d3]
                       try with_reducible rfl
                     simp only [Act.put, List.setIfInBounds_toArray, List.set_cons_zero, List.set_cons_succ])
                  | (refine mv_free _ (Or.inr ⟨by rfl, rfl⟩) (⟨r1, r2⟩) ?_
                     simp only [Act.put, List.setIfInBounds_toArray, List.set_cons_zero, List.set_cons_succ])
              iterate 1
                first
                  | (refine mv_take ?_ (Or.inl ⟨by rfl, ?_⟩) (⟨r1, r2⟩) ?_
                     rotate_left 1
                     · intro u hu
                       (try dsimp only at hu)
                       go_simp
                       try with_reducible rfl
                     simp only [Act.put, List.setIfInBounds_toArray, List.set_cons_zero, List.set_cons_succ])
                  | (refine mv_take _ (Or.inr ⟨by rfl, rfl⟩) (⟨r1, r2⟩) ?_
                     simp only [Act.put, List.setIfInBounds_toArray, List.set_cons_zero, List.set_cons_succ])
              iterate 1
                first
                  | (refine mv_free ?_ (Or.inl ⟨by rfl, ?_⟩) (⟨r1, r2⟩) ?_
                     rotate_left 1
                     · intro u
                       go_simp
                       try simp only [d1]
                       try simp only [d2]
                       try simp only [d3]
                       try with_reducible rfl
                     simp only [Act.put, List.setIfInBounds_toArray, List.set_cons_zero, List.set_cons_succ])
                  | (refine mv_free _ (Or.inr ⟨by rfl, rfl⟩) (⟨r1, r2⟩) ?_
                     simp only [Act.put, List.setIfInBounds_toArray, List.set_cons_zero, List.set_cons_succ])
              refine mv_step (fun K hK => ?_)
              go_simp
              refine (A9.out _).mono ?_
              rintro e w19 ⟨rfl, rfl⟩
              go_wp2_with fail
              refine hK.out _ _ _ (fun u hu => hu) (⟨r1, r2⟩) ?_
              clear hK K
              iterate 2
                first
                  | (refine mv_free ?_ (Or.inl ⟨by rfl, ?_⟩) (⟨r1, r2⟩) ?_
                     rotate_left 1
                     · intro u
                       go_simp
                       try simp only [d1]
                       try simp only [d2]
                       try simp only [d3]
                       try with_reducible rfl
                     simp only [Act.put, List.setIfInBounds_toArray, List.set_cons_zero, List.set_cons_succ])
                  | (refine mv_free _ (Or.inr ⟨by rfl, rfl⟩) (⟨r1, r2⟩) ?_
                     simp only [Act.put, List.setIfInBounds_toArray, List.set_cons_zero, List.set_cons_succ])
              refine mv_done ?_
              go_wp2
              go_roundw
              case rel => exact ⟨t + 1, by omega, by omega, by rw [SN.out], by go_num, hb.drew, Lib.hid ⟨hS.out.1.drew, hS.out.2.1, hS.out.2.2⟩⟩
              case measure => simp [intOf]; omega
            · have hge : (M.length : Int) ≤ (t : Int) := by omega
              have et : t = M.length := by omega
              rw [show stN M t = stp M from by rw [et]; rfl]
              have oo := Lib.hid hS.out.2.1
              have zz := Lib.hid hS.out.2.2
              clear hS
              have E1 := Lib.hid (fun u => LE.out b M u)
              have E2 := Lib.hid (fun u => ST.out b M u)
              replace et := Lib.hid et
              obtain ⟨sp, esp⟩ : ∃ sp, sp = stp M := ⟨_, rfl⟩
              rw [← esp] at E2 ⊢
              have dsp : (sp != sp) = false := by simp
              replace esp := Lib.hid esp
              go_wp2_with fail
              refine (E1.out _ mm).mono ?_
              rintro e w16 ⟨rfl, rfl⟩
              go_wp2_with fail
              refine (E2.out _ mm).mono ?_
              rintro e w17 ⟨rfl, hb17⟩
              have m17 := Lib.hid (mm.bel hb17)
              have o17 := Lib.hid (oo.out.bel hb17)
              have z17 := Lib.hid (Nat.le_trans zz.out hb17.size)
              have h17 := hb.trans (hb17.mono hb.size)
              clear hb hb17 mm oo zz
              have em2 := em1.out
              have d1 : (m1 : Int) < 1 := by omega
              have d0 : ¬ 0 < (m1 : Int) := by omega
              clear em2
              go_wp2
              go_roundw
              case rel => exact ⟨k + 1, _, M, by omega, rfl, by go_num, h17, Lib.hid ⟨m17.out, o17.out, z17.out⟩⟩
              case measure => simp [intOf]; omega
        · have h2M' : 2 ≤ M.length := by omega
          have RTx := RT.out b M _ m5.out (by omega)
          have bd0 := m5.out.bd 0 (by omega)
          have bdn := m5.out.bd (M.length - 1) (by omega)
          have hD : -200000000 ≤ cmD M ∧ cmD M ≤ 200000000 := by unfold cmD; omega
          have MTx := fun u m => MT.out b M u m (by omega)
          rw [show cmD M * 50 = 50 * cmD M from Int.mul_comm _ _] at RTx
          simp only [show cmD M * 300000 = 300000 * cmD M from Int.mul_comm _ _] at MTx
          rw [eM.out] at RTx
          simp only [eM.out] at MTx
          replace RTx := Lib.hid RTx
          replace MTx := Lib.hid MTx
          clear bd0 bdn
          go_wp2_with fail
          refine RTx.out.mono ?_
          rintro e w6 ⟨rfl, hb6'⟩
          have m6 := Lib.hid (m5.out.bel hb6')
          have o6 := Lib.hid (hO5.out.bel hb6')
          have z6 := Lib.hid (Nat.le_trans hz5.out hb6'.size)
          have hb6 := hb5.trans (hb6'.mono hb5.size)
          clear hb5 hb6' m5 hO5 hz5
          go_wp2_with fail
          refine (MTx.out _ m6.out).mono ?_
          rintro e w7 ⟨rfl, hb7'⟩
          have mm := Lib.hid (m6.out.bel hb7')
          have oo := Lib.hid (o6.out.bel hb7')
          have zz := Lib.hid (Nat.le_trans z6.out hb7'.size)
          have hb7 := hb6.trans (hb7'.mono hb6.size)
          clear hb6 hb7' m6 o6 z6
          go_wp2_with fail
          go_loopw [14, 15] (fun s i v => ∃ t : Nat, 1 ≤ t ∧ t ≤ M.length ∧ s = .int .i64 (stN M t) ∧ i = .int .i64 (t : Int) ∧ Below w.heap.size w v ∧ Hid (Mt b sz M v ∧ Ow B (.slice (some ⟨g5, off5, none⟩) M.length cap5) M v ∧ B ≤ v.heap.size)) (fun _ i _ => M.length - (intOf i).toNat)
          case atStart => exact ⟨1, by omega, by have := lM.out; omega, rfl, rfl, hb7, Lib.hid ⟨mm.out, oo.out, zz.out⟩⟩
          case round =>
            clear hb7 mm oo zz
            obtain ⟨t, ht1, ht, rfl, rfl, hb, hS⟩ := hrel
            have mm := hS.out.1
            have lMx := lM.out
            by_cases hlt2 : t < M.length
            · have hs := stN_bd mm.bd t (by omega)
              have b1 := mm.bd t hlt2
              have b2 := mm.bd (t - 1) (by omega)
              have SN := Lib.hid (show stN M (t + 1) = cmF (stN M t) (M.getD t 0 - M.getD (t - 1) 0) from by
                show (if t = 0 then 0 else cmF (stN M t) (M.getD t 0 - M.getD (t - 1) 0)) = _
                rw [if_neg (by omega)])
              obtain ⟨ao, cp, e9, hr9, -⟩ := hS.out.2.1.row
              injection e9 with e9 e10 e11
              subst e9
              rcases hr9 with hr9 | ⟨g9, o9, e9, hgl, hc⟩
              · rw [hr9] at hlt2; simp at hlt2
              injection e9 with e9
              injection e9 with e9 e12
              subst e9 e12
              have r1 := hc t hlt2
              have r2 := hc (t - 1) (by omega)
              obtain ⟨m, hm⟩ : ∃ m, m = t - 1 := ⟨_, rfl⟩
              rw [← hm] at r2 SN b2
              generalize M.getD m 0 = x1 at *
              generalize M.getD t 0 = y1 at *
              generalize stN M t = s at *
              have n1 : IntKind.i64.wrap ((t : Int) - 1) = (m : Int) := by rw [IntKind.wrap_i64]; omega
              obtain ⟨d, hd⟩ : ∃ d, d = y1 - x1 := ⟨_, rfl⟩
              have n2 : IntKind.i64.wrap (y1 - x1) = d := by rw [IntKind.wrap_i64]; omega
              rw [← hd] at SN
              have A9 := Lib.hid (fun u => AB.out d u (by omega))
              have eA : cmF s d = max s (if d < 0 then -d else d) := by rw [cmF_max]; omega
              obtain ⟨z, hz⟩ : ∃ z, z = (if d < 0 then -d else d) := ⟨_, rfl⟩
              rw [← hz] at eA A9
              have n3 : max s z = cmF s d := eA.symm
              have n3' : (if s < z then z else s) = cmF s d := by rw [← n3]; omega
              have n4 : 0 ≤ (m : Int) := by omega
              have n5 : (m : Int) < (M.length : Int) := by omega
              have n6 : m < M.length := by omega
              have n7 : (t : Int) < (M.length : Int) := by omega
              have n8 : 0 ≤ (t : Int) := by omega
              generalize cmF s d = q at *
              replace hd := Lib.hid hd
              replace hz := Lib.hid hz
              clear hs b1 b2 hc mm hgl hm eA e10 e11
              go_wp2_with fail
              refine region_moves (fun u => u.cell? ⟨g5, off5 + t, none⟩ = some (.int .i64 y1) ∧ u.cell? ⟨g5, off5 + m, none⟩ = some (.int .i64 x1)) [] [(.free, 0), (.free, 1), (.free, 2), (.free, 3), (.take, 4), (.free, 5), (.free, 6), (.free, 7), (.free, 8), (.take, 9), (.free, 10), (.step, 11), (.free, 12), (.free, 13)] _ (by kernel_rfl) (by kernel_rfl) (by kernel_rfl) (by kernel_rfl) (by decide) rfl (fun _ _ _ _ _ h => h) ?_
              simp only [List.filterMap_cons, List.filterMap_nil, List.getElem?_toArray, List.getElem?_cons_zero, List.getElem?_cons_succ, Option.map_some]
              iterate 4
                first
                  | (refine mv_free ?_ (Or.inl ⟨by rfl, ?_⟩) (⟨r1, r2⟩) ?_
                     rotate_left 1
                     · intro u
                       go_simp
                       try simp only [d1]
                       try simp only [d2]
                       try simp only [d3]
                       try with_reducible rfl
                     simp only [Act.put, List.setIfInBounds_toArray, List.set_cons_zero, List.set_cons_succ])
                  | (refine mv_free _ (Or.inr ⟨by rfl, rfl⟩) (⟨r1, r2⟩) ?_
                     simp only [Act.put, List.setIfInBounds_toArray, List.set_cons_zero, List.set_cons_succ])
              iterate 1
                first
                  | (refine mv_take ?_ (Or.inl ⟨by rfl, ?_⟩) (⟨r1, r2⟩) ?_
                     rotate_left 1
                     · intro u hu
                       (try dsimp only at hu)
                       go_simp
                       try with_reducible rfl
                     simp only [Act.put, List.setIfInBounds_toArray, List.set_cons_zero, List.set_cons_succ])
                  | (refine mv_take _ (Or.inr ⟨by rfl, rfl⟩) (⟨r1, r2⟩) ?_
                     simp only [Act.put, List.setIfInBounds_toArray, List.set_cons_zero, List.set_cons_succ])
              iterate 4
                first
                  | (refine mv_free ?_ (Or.inl ⟨by rfl, ?_⟩) (⟨r1, r2⟩) ?_
                     rotate_left 1
                     · intro u
                       go_simp
                       try simp only [d1]
                       try simp only [d2]
                       try simp only [d3]
                       try with_reducible rfl
                     simp only [Act.put, List.setIfInBounds_toArray, List.set_cons_zero, List.set_cons_succ])
                  | (refine mv_free _ (Or.inr ⟨by rfl, rfl⟩) (⟨r1, r2⟩) ?_
                     simp only [Act.put, List.setIfInBounds_toArray, List.set_cons_zero, List.set_cons_succ])
              iterate 1
                first
                  | (refine mv_take ?_ (Or.inl ⟨by rfl, ?_⟩) (⟨r1, r2⟩) ?_
                     rotate_left 1
                     · intro u hu
                       (try dsimp only at hu)
                       go_simp
                       try with_reducible rfl
                     simp only [Act.put, List.setIfInBounds_toArray, List.set_cons_zero, List.set_cons_succ])
                  | (refine mv_take _ (Or.inr ⟨by rfl, rfl⟩) (⟨r1, r2⟩) ?_
                     simp only [Act.put, List.setIfInBounds_toArray, List.set_cons_zero, List.set_cons_succ])
              iterate 1
                first
                  | (refine mv_free ?_ (Or.inl ⟨by rfl, ?_⟩) (⟨r1, r2⟩) ?_
                     rotate_left 1
                     · intro u
                       go_simp
                       try simp only [d1]
                       try simp only [d2]
                       try simp only [d3]
                       try with_reducible rfl
                     simp only [Act.put, List.setIfInBounds_toArray, List.set_cons_zero, List.set_cons_succ])
                  | (refine mv_free _ (Or.inr ⟨by rfl, rfl⟩) (⟨r1, r2⟩) ?_
                     simp only [Act.put, List.setIfInBounds_toArray, List.set_cons_zero, List.set_cons_succ])
              refine mv_step (fun K hK => ?_)
              go_simp
              refine (A9.out _).mono ?_
              rintro e w19 ⟨rfl, rfl⟩
              go_wp2_with fail
              refine hK.out _ _ _ (fun u hu => hu) (⟨r1, r2⟩) ?_
              clear hK K
              iterate 2
                first
                  | (refine mv_free ?_ (Or.inl ⟨by rfl, ?_⟩) (⟨r1, r2⟩) ?_
                     rotate_left 1
                     · intro u
                       go_simp
                       try simp only [d1]
                       try simp only [d2]
                       try simp only [d3]
                       try with_reducible rfl
                     simp only [Act.put, List.setIfInBounds_toArray, List.set_cons_zero, List.set_cons_succ])
                  | (refine mv_free _ (Or.inr ⟨by rfl, rfl⟩) (⟨r1, r2⟩) ?_
                     simp only [Act.put, List.setIfInBounds_toArray, List.set_cons_zero, List.set_cons_succ])
              refine mv_done ?_
              go_wp2
              go_roundw
              case rel => exact ⟨t + 1, by omega, by omega, by rw [SN.out], by go_num, hb.drew, Lib.hid ⟨hS.out.1.drew, hS.out.2.1, hS.out.2.2⟩⟩
              case measure => simp [intOf]; omega
            · have hge : (M.length : Int) ≤ (t : Int) := by omega
              have et : t = M.length := by omega
              rw [show stN M t = stp M from by rw [et]; rfl]
              have oo := Lib.hid hS.out.2.1
              have zz := Lib.hid hS.out.2.2
              clear hS
              have E1 := Lib.hid (fun u => LE.out b M u)
              have E2 := Lib.hid (fun u => ST.out b M u)
              replace et := Lib.hid et
              obtain ⟨sp, esp⟩ : ∃ sp, sp = stp M := ⟨_, rfl⟩
              rw [← esp] at E2 ⊢
              have dsp : (sp != sp) = false := by simp
              replace esp := Lib.hid esp
              go_wp2_with fail
              refine (E1.out _ mm).mono ?_
              rintro e w16 ⟨rfl, rfl⟩
              go_wp2_with fail
              refine (E2.out _ mm).mono ?_
              rintro e w17 ⟨rfl, hb17⟩
              have m17 := Lib.hid (mm.bel hb17)
              have o17 := Lib.hid (oo.out.bel hb17)
              have z17 := Lib.hid (Nat.le_trans zz.out hb17.size)
              have h17 := hb.trans (hb17.mono hb.size)
              clear hb hb17 mm oo zz
              have em2 := em1.out
              have d1 : ¬ (m1 : Int) < 1 := by omega
              have d0 : 0 < (m1 : Int) := by omega
              obtain ⟨ao, cp, e9, hr9, -⟩ := o17.out.row
              injection e9 with e9 e10 e11
              subst e9
              rcases hr9 with hr9 | ⟨g9, o9, e9, hgl, hc⟩
              · rw [hr9] at em2; simp at em2
              injection e9 with e9
              injection e9 with e9 e12
              subst e9 e12
              have r1 := hc m1 (by omega)
              have r2 := hc 0 (by omega)
              rw [Nat.add_zero] at r2
              have n5 : (m1 : Int) < (M.length : Int) := by omega
              have n5' : m1 < M.length := by omega
              have n6 : 0 ≤ (m1 : Int) := by omega
              have n7 : (0 : Int) < (M.length : Int) := by omega
              have n7' : 0 < M.length := by omega
              have e13 : M.length - 1 = m1 := by omega
              have eD : M.getD m1 0 - M.getD 0 0 = cmD M := by unfold cmD; rw [e13]
              have bq := m17.out.bd m1 (by omega)
              have bq0 := m17.out.bd 0 (by omega)
              obtain ⟨y1, ey1⟩ : ∃ y1, y1 = M.getD m1 0 := ⟨_, rfl⟩
              obtain ⟨x1, ex1⟩ : ∃ x1, x1 = M.getD 0 0 := ⟨_, rfl⟩
              rw [← ey1] at r1 eD bq
              rw [← ex1] at r2 eD bq0
              obtain ⟨D, eDD⟩ : ∃ D, D = cmD M := ⟨_, rfl⟩
              rw [← eDD] at eD hD
              have q2 : IntKind.i64.wrap (y1 - x1) = D := by rw [IntKind.wrap_i64]; omega
              have q3 : IntKind.i64.wrap (50 * D) = 50 * D := by rw [IntKind.wrap_i64]; omega
              have q4 : IntKind.i64.wrap (300000 * D) = 300000 * D := by rw [IntKind.wrap_i64]; omega
              have lM1 := lM.out
              have q5 : IntKind.i64.wrap (3048 * (m1 : Int)) = 3048 * (m1 : Int) := by rw [IntKind.wrap_i64]; omega
              have FA := Lib.hid (fun u => F1.out (50 * D) (m1 : Int) u (by omega) (by omega) (by omega))
              have FB := Lib.hid (fun u => F1.out (300000 * D) (3048 * (m1 : Int)) u (by omega) (by omega) (by omega))
              skip
              have d8 : (50 * D / (m1 : Int) != 50 * D / (m1 : Int)) = false := by simp
              have d9 : (300000 * D / (3048 * (m1 : Int)) != 300000 * D / (3048 * (m1 : Int))) = false := by simp
              clear hc hgl e10 e11 lM1 bq bq0 em2 e13
              replace ey1 := Lib.hid ey1
              replace ex1 := Lib.hid ex1
              replace eD := Lib.hid eD
              rw [← eDD]
              replace eDD := Lib.hid eDD
              go_wp2_with fail
              refine region_moves (fun u => u.cell? ⟨g5, off5 + m1, none⟩ = some (.int .i64 y1) ∧ u.cell? ⟨g5, off5, none⟩ = some (.int .i64 x1)) [] [(.free, 0), (.free, 1), (.free, 2), (.take, 3), (.free, 4), (.free, 5), (.take, 6), (.free, 7), (.free, 8)] _ (by kernel_rfl) (by kernel_rfl) (by kernel_rfl) (by kernel_rfl) (by decide) rfl (fun _ _ _ _ _ h => h) ?_
              simp only [List.filterMap_cons, List.filterMap_nil, List.getElem?_toArray, List.getElem?_cons_zero, List.getElem?_cons_succ, Option.map_some]
              iterate 3
                first
                  | (refine mv_free ?_ (Or.inl ⟨by rfl, ?_⟩) (⟨r1, r2⟩) ?_
                     rotate_left 1
                     · intro u
                       go_simp
                       try simp only [d1]
                       try simp only [d2]
                       try simp only [d3]
                       try with_reducible rfl
                     simp only [Act.put, List.setIfInBounds_toArray, List.set_cons_zero, List.set_cons_succ])
                  | (refine mv_free _ (Or.inr ⟨by rfl, rfl⟩) (⟨r1, r2⟩) ?_
                     simp only [Act.put, List.setIfInBounds_toArray, List.set_cons_zero, List.set_cons_succ])
              iterate 1
                first
                  | (refine mv_take ?_ (Or.inl ⟨by rfl, ?_⟩) (⟨r1, r2⟩) ?_
                     rotate_left 1
                     · intro u hu
                       (try dsimp only at hu)
                       go_simp
                       try with_reducible rfl
                     simp only [Act.put, List.setIfInBounds_toArray, List.set_cons_zero, List.set_cons_succ])
                  | (refine mv_take _ (Or.inr ⟨by rfl, rfl⟩) (⟨r1, r2⟩) ?_
                     simp only [Act.put, List.setIfInBounds_toArray, List.set_cons_zero, List.set_cons_succ])
              iterate 2
                first
                  | (refine mv_free ?_ (Or.inl ⟨by rfl, ?_⟩) (⟨r1, r2⟩) ?_
                     rotate_left 1
                     · intro u
                       go_simp
                       try simp only [d1]
                       try simp only [d2]
                       try simp only [d3]
                       try with_reducible rfl
                     simp only [Act.put, List.setIfInBounds_toArray, List.set_cons_zero, List.set_cons_succ])
                  | (refine mv_free _ (Or.inr ⟨by rfl, rfl⟩) (⟨r1, r2⟩) ?_
                     simp only [Act.put, List.setIfInBounds_toArray, List.set_cons_zero, List.set_cons_succ])
              iterate 1
                first
                  | (refine mv_take ?_ (Or.inl ⟨by rfl, ?_⟩) (⟨r1, r2⟩) ?_
                     rotate_left 1
                     · intro u hu
                       (try dsimp only at hu)
                       go_simp
                       try with_reducible rfl
                     simp only [Act.put, List.setIfInBounds_toArray, List.set_cons_zero, List.set_cons_succ])
                  | (refine mv_take _ (Or.inr ⟨by rfl, rfl⟩) (⟨r1, r2⟩) ?_
                     simp only [Act.put, List.setIfInBounds_toArray, List.set_cons_zero, List.set_cons_succ])
              iterate 2
                first
                  | (refine mv_free ?_ (Or.inl ⟨by rfl, ?_⟩) (⟨r1, r2⟩) ?_
                     rotate_left 1
                     · intro u
                       go_simp
                       try simp only [d1]
                       try simp only [d2]
                       try simp only [d3]
                       try with_reducible rfl
                     simp only [Act.put, List.setIfInBounds_toArray, List.set_cons_zero, List.set_cons_succ])
                  | (refine mv_free _ (Or.inr ⟨by rfl, rfl⟩) (⟨r1, r2⟩) ?_
                     simp only [Act.put, List.setIfInBounds_toArray, List.set_cons_zero, List.set_cons_succ])
              refine mv_done ?_
              go_wp2_with fail
              refine (FA.out _).mono ?_
              rintro e w18 ⟨rfl, rfl⟩
              go_wp2_with fail
              refine (FB.out _).mono ?_
              rintro e w18 ⟨rfl, rfl⟩
              go_wp2
              go_roundw
              case rel => exact ⟨k + 1, _, M, by omega, rfl, by go_num, h17.drew, Lib.hid ⟨m17.out.drew, o17.out, z17.out⟩⟩
              case measure => simp [intOf]; omega
      · have e2 : mtN sz L y = (L ++ [cmH y]).drop 1 := by rw [emt, show L.length + 1 - (sz.toNat + 1) = 1 by have := hs1.out; omega]
        rw [e2] at m5
        have hd : sz + 1 < (L.length : Int) + 1 := by omega
        have hO6 := hO5.tail (k := 1) (by omega)
        have hl8 : ((L ++ [cmH y]).drop 1).length = L.length := by rw [List.length_drop, hl5]; omega
        rw [hl5] at hO6
        have hz1 : cap5 - 1 ≠ 0 := by omega
        go_upto_region 12 with (fail)
        rw [show L.length + 1 - 1 = L.length from by omega] at hO6
        generalize emM : (L ++ [cmH y]).drop 1 = M at *
        have hl6 : L.length = M.length := hl8.symm
        rw [hl6]
        obtain ⟨off6, eo6⟩ : ∃ o, o = off5 + 1 := ⟨_, rfl⟩
        obtain ⟨cap6, ec6⟩ : ∃ c, c = cap5 - 1 := ⟨_, rfl⟩
        rw [hl6, ← eo6, ← ec6] at hO6
        rw [← eo6, ← ec6]
        replace hO5 := hO6
        clear hO6 eo6 ec6 emM emt e2 ml hd hz1 hl8
        have lM := Lib.hid (show 1 ≤ M.length ∧ M.length ≤ 65 from by omega)
        clear hl5 hcap5 hcapI l65 L65
        replace m5 := Lib.hid m5
        replace hO5 := Lib.hid hO5
        replace hz5 := Lib.hid hz5
        obtain ⟨m1, em1⟩ : ∃ m1 : Nat, m1 + 1 = M.length := ⟨M.length - 1, by have := lM.out; omega⟩
        have nL : IntKind.i64.wrap ((M.length : Int) - 1) = (m1 : Int) := by have := lM.out; rw [IntKind.wrap_i64]; omega
        have eM := Lib.hid (show (M.length : Int) - 1 = (m1 : Int) from by omega)
        replace em1 := Lib.hid em1
        by_cases h2M : M.length < 2
        · skip
          exact absurd h2M (by omega)
        · have h2M' : 2 ≤ M.length := by omega
          have RTx := RT.out b M _ m5.out (by omega)
          have bd0 := m5.out.bd 0 (by omega)
          have bdn := m5.out.bd (M.length - 1) (by omega)
          have hD : -200000000 ≤ cmD M ∧ cmD M ≤ 200000000 := by unfold cmD; omega
          have MTx := fun u m => MT.out b M u m (by omega)
          rw [show cmD M * 50 = 50 * cmD M from Int.mul_comm _ _] at RTx
          simp only [show cmD M * 300000 = 300000 * cmD M from Int.mul_comm _ _] at MTx
          rw [eM.out] at RTx
          simp only [eM.out] at MTx
          replace RTx := Lib.hid RTx
          replace MTx := Lib.hid MTx
          clear bd0 bdn
          go_wp2_with fail
          refine RTx.out.mono ?_
          rintro e w6 ⟨rfl, hb6'⟩
          have m6 := Lib.hid (m5.out.bel hb6')
          have o6 := Lib.hid (hO5.out.bel hb6')
          have z6 := Lib.hid (Nat.le_trans hz5.out hb6'.size)
          have hb6 := hb5.trans (hb6'.mono hb5.size)
          clear hb5 hb6' m5 hO5 hz5
          go_wp2_with fail
          refine (MTx.out _ m6.out).mono ?_
          rintro e w7 ⟨rfl, hb7'⟩
          have mm := Lib.hid (m6.out.bel hb7')
          have oo := Lib.hid (o6.out.bel hb7')
          have zz := Lib.hid (Nat.le_trans z6.out hb7'.size)
          have hb7 := hb6.trans (hb7'.mono hb6.size)
          clear hb6 hb7' m6 o6 z6
          go_wp2_with fail
          go_loopw [14, 15] (fun s i v => ∃ t : Nat, 1 ≤ t ∧ t ≤ M.length ∧ s = .int .i64 (stN M t) ∧ i = .int .i64 (t : Int) ∧ Below w.heap.size w v ∧ Hid (Mt b sz M v ∧ Ow B (.slice (some ⟨g5, off6, none⟩) M.length cap6) M v ∧ B ≤ v.heap.size)) (fun _ i _ => M.length - (intOf i).toNat)
          case atStart => exact ⟨1, by omega, by have := lM.out; omega, rfl, rfl, hb7, Lib.hid ⟨mm.out, oo.out, zz.out⟩⟩
          case round =>
            clear hb7 mm oo zz
            obtain ⟨t, ht1, ht, rfl, rfl, hb, hS⟩ := hrel
            have mm := hS.out.1
            have lMx := lM.out
            by_cases hlt2 : t < M.length
            · have hs := stN_bd mm.bd t (by omega)
              have b1 := mm.bd t hlt2
              have b2 := mm.bd (t - 1) (by omega)
              have SN := Lib.hid (show stN M (t + 1) = cmF (stN M t) (M.getD t 0 - M.getD (t - 1) 0) from by
                show (if t = 0 then 0 else cmF (stN M t) (M.getD t 0 - M.getD (t - 1) 0)) = _
                rw [if_neg (by omega)])
              obtain ⟨ao, cp, e9, hr9, -⟩ := hS.out.2.1.row
              injection e9 with e9 e10 e11
              subst e9
              rcases hr9 with hr9 | ⟨g9, o9, e9, hgl, hc⟩
              · rw [hr9] at hlt2; simp at hlt2
              injection e9 with e9
              injection e9 with e9 e12
              subst e9 e12
              have r1 := hc t hlt2
              have r2 := hc (t - 1) (by omega)
              obtain ⟨m, hm⟩ : ∃ m, m = t - 1 := ⟨_, rfl⟩
              rw [← hm] at r2 SN b2
              generalize M.getD m 0 = x1 at *
              generalize M.getD t 0 = y1 at *
              generalize stN M t = s at *
              have n1 : IntKind.i64.wrap ((t : Int) - 1) = (m : Int) := by rw [IntKind.wrap_i64]; omega
              obtain ⟨d, hd⟩ : ∃ d, d = y1 - x1 := ⟨_, rfl⟩
              have n2 : IntKind.i64.wrap (y1 - x1) = d := by rw [IntKind.wrap_i64]; omega
              rw [← hd] at SN
              have A9 := Lib.hid (fun u => AB.out d u (by omega))
              have eA : cmF s d = max s (if d < 0 then -d else d) := by rw [cmF_max]; omega
              obtain ⟨z, hz⟩ : ∃ z, z = (if d < 0 then -d else d) := ⟨_, rfl⟩
              rw [← hz] at eA A9
              have n3 : max s z = cmF s d := eA.symm
              have n3' : (if s < z then z else s) = cmF s d := by rw [← n3]; omega
              have n4 : 0 ≤ (m : Int) := by omega
              have n5 : (m : Int) < (M.length : Int) := by omega
              have n6 : m < M.length := by omega
              have n7 : (t : Int) < (M.length : Int) := by omega
              have n8 : 0 ≤ (t : Int) := by omega
              generalize cmF s d = q at *
              replace hd := Lib.hid hd
              replace hz := Lib.hid hz
              clear hs b1 b2 hc mm hgl hm eA e10 e11
              go_wp2_with fail
              refine region_moves (fun u => u.cell? ⟨g5, off6 + t, none⟩ = some (.int .i64 y1) ∧ u.cell? ⟨g5, off6 + m, none⟩ = some (.int .i64 x1)) [] [(.free, 0), (.free, 1), (.free, 2), (.free, 3), (.take, 4), (.free, 5), (.free, 6), (.free, 7), (.free, 8), (.take, 9), (.free, 10), (.step, 11), (.free, 12), (.free, 13)] _ (by kernel_rfl) (by kernel_rfl) (by kernel_rfl) (by kernel_rfl) (by decide) rfl (fun _ _ _ _ _ h => h) ?_
              simp only [List.filterMap_cons, List.filterMap_nil, List.getElem?_toArray, List.getElem?_cons_zero, List.getElem?_cons_succ, Option.map_some]
              iterate 4
                first
                  | (refine mv_free ?_ (Or.inl ⟨by rfl, ?_⟩) (⟨r1, r2⟩) ?_
                     rotate_left 1
                     · intro u
                       go_simp
                       try simp only [d1]
                       try simp only [d2]
                       try simp only [d3]
                       try with_reducible rfl
                     simp only [Act.put, List.setIfInBounds_toArray, List.set_cons_zero, List.set_cons_succ])
                  | (refine mv_free _ (Or.inr ⟨by rfl, rfl⟩) (⟨r1, r2⟩) ?_
                     simp only [Act.put, List.setIfInBounds_toArray, List.set_cons_zero, List.set_cons_succ])
              iterate 1
                first
                  | (refine mv_take ?_ (Or.inl ⟨by rfl, ?_⟩) (⟨r1, r2⟩) ?_
                     rotate_left 1
                     · intro u hu
                       (try dsimp only at hu)
                       go_simp
                       try with_reducible rfl
                     simp only [Act.put, List.setIfInBounds_toArray, List.set_cons_zero, List.set_cons_succ])
                  | (refine mv_take _ (Or.inr ⟨by rfl, rfl⟩) (⟨r1, r2⟩) ?_
                     simp only [Act.put, List.setIfInBounds_toArray, List.set_cons_zero, List.set_cons_succ])
              iterate 4
                first
                  | (refine mv_free ?_ (Or.inl ⟨by rfl, ?_⟩) (⟨r1, r2⟩) ?_
                     rotate_left 1
                     · intro u
                       go_simp
                       try simp only [d1]
                       try simp only [d2]
                       try simp only [d3]
                       try with_reducible rfl
                     simp only [Act.put, List.setIfInBounds_toArray, List.set_cons_zero, List.set_cons_succ])
                  | (refine mv_free _ (Or.inr ⟨by rfl, rfl⟩) (⟨r1, r2⟩) ?_
                     simp only [Act.put, List.setIfInBounds_toArray, List.set_cons_zero, List.set_cons_succ])
              iterate 1
                first
                  | (refine mv_take ?_ (Or.inl ⟨by rfl, ?_⟩) (⟨r1, r2⟩) ?_
                     rotate_left 1
                     · intro u hu
                       (try dsimp only at hu)
                       go_simp
                       try with_reducible rfl
                     simp only [Act.put, List.setIfInBounds_toArray, List.set_cons_zero, List.set_cons_succ])
                  | (refine mv_take _ (Or.inr ⟨by rfl, rfl⟩) (⟨r1, r2⟩) ?_
                     simp only [Act.put, List.setIfInBounds_toArray, List.set_cons_zero, List.set_cons_succ])
              iterate 1
                first
                  | (refine mv_free ?_ (Or.inl ⟨by rfl, ?_⟩) (⟨r1, r2⟩) ?_
                     rotate_left 1
                     · intro u
                       go_simp
                       try simp only [d1]
                       try simp only [d2]
                       try simp only [d3]
                       try with_reducible rfl
                     simp only [Act.put, List.setIfInBounds_toArray, List.set_cons_zero, List.set_cons_succ])
                  | (refine mv_free _ (Or.inr ⟨by rfl, rfl⟩) (⟨r1, r2⟩) ?_
                     simp only [Act.put, List.setIfInBounds_toArray, List.set_cons_zero, List.set_cons_succ])
              refine mv_step (fun K hK => ?_)
              go_simp
              refine (A9.out _).mono ?_
              rintro e w19 ⟨rfl, rfl⟩
              go_wp2_with fail
              refine hK.out _ _ _ (fun u hu => hu) (⟨r1, r2⟩) ?_
              clear hK K
              iterate 2
                first
                  | (refine mv_free ?_ (Or.inl ⟨by rfl, ?_⟩) (⟨r1, r2⟩) ?_
                     rotate_left 1
                     · intro u
                       go_simp
                       try simp only [d1]
                       try simp only [d2]
                       try simp only [d3]
                       try with_reducible rfl
                     simp only [Act.put, List.setIfInBounds_toArray, List.set_cons_zero, List.set_cons_succ])
                  | (refine mv_free _ (Or.inr ⟨by rfl, rfl⟩) (⟨r1, r2⟩) ?_
                     simp only [Act.put, List.setIfInBounds_toArray, List.set_cons_zero, List.set_cons_succ])
              refine mv_done ?_
              go_wp2
              go_roundw
              case rel => exact ⟨t + 1, by omega, by omega, by rw [SN.out], by go_num, hb.drew, Lib.hid ⟨hS.out.1.drew, hS.out.2.1, hS.out.2.2⟩⟩
              case measure => simp [intOf]; omega
            · have hge : (M.length : Int) ≤ (t : Int) := by omega
              have et : t = M.length := by omega
              rw [show stN M t = stp M from by rw [et]; rfl]
              have oo := Lib.hid hS.out.2.1
              have zz := Lib.hid hS.out.2.2
              clear hS
              have E1 := Lib.hid (fun u => LE.out b M u)
              have E2 := Lib.hid (fun u => ST.out b M u)
              replace et := Lib.hid et
              obtain ⟨sp, esp⟩ : ∃ sp, sp = stp M := ⟨_, rfl⟩
              rw [← esp] at E2 ⊢
              have dsp : (sp != sp) = false := by simp
              replace esp := Lib.hid esp
              go_wp2_with fail
              refine (E1.out _ mm).mono ?_
              rintro e w16 ⟨rfl, rfl⟩
              go_wp2_with fail
              refine (E2.out _ mm).mono ?_
              rintro e w17 ⟨rfl, hb17⟩
              have m17 := Lib.hid (mm.bel hb17)
              have o17 := Lib.hid (oo.out.bel hb17)
              have z17 := Lib.hid (Nat.le_trans zz.out hb17.size)
              have h17 := hb.trans (hb17.mono hb.size)
              clear hb hb17 mm oo zz
              have em2 := em1.out
              have d1 : ¬ (m1 : Int) < 1 := by omega
              have d0 : 0 < (m1 : Int) := by omega
              obtain ⟨ao, cp, e9, hr9, -⟩ := o17.out.row
              injection e9 with e9 e10 e11
              subst e9
              rcases hr9 with hr9 | ⟨g9, o9, e9, hgl, hc⟩
              · rw [hr9] at em2; simp at em2
              injection e9 with e9
              injection e9 with e9 e12
              subst e9 e12
              have r1 := hc m1 (by omega)
              have r2 := hc 0 (by omega)
              rw [Nat.add_zero] at r2
              have n5 : (m1 : Int) < (M.length : Int) := by omega
              have n5' : m1 < M.length := by omega
              have n6 : 0 ≤ (m1 : Int) := by omega
              have n7 : (0 : Int) < (M.length : Int) := by omega
              have n7' : 0 < M.length := by omega
              have e13 : M.length - 1 = m1 := by omega
              have eD : M.getD m1 0 - M.getD 0 0 = cmD M := by unfold cmD; rw [e13]
              have bq := m17.out.bd m1 (by omega)
              have bq0 := m17.out.bd 0 (by omega)
              obtain ⟨y1, ey1⟩ : ∃ y1, y1 = M.getD m1 0 := ⟨_, rfl⟩
              obtain ⟨x1, ex1⟩ : ∃ x1, x1 = M.getD 0 0 := ⟨_, rfl⟩
              rw [← ey1] at r1 eD bq
              rw [← ex1] at r2 eD bq0
              obtain ⟨D, eDD⟩ : ∃ D, D = cmD M := ⟨_, rfl⟩
              rw [← eDD] at eD hD
              have q2 : IntKind.i64.wrap (y1 - x1) = D := by rw [IntKind.wrap_i64]; omega
              have q3 : IntKind.i64.wrap (50 * D) = 50 * D := by rw [IntKind.wrap_i64]; omega
              have q4 : IntKind.i64.wrap (300000 * D) = 300000 * D := by rw [IntKind.wrap_i64]; omega
              have lM1 := lM.out
              have q5 : IntKind.i64.wrap (3048 * (m1 : Int)) = 3048 * (m1 : Int) := by rw [IntKind.wrap_i64]; omega
              have FA := Lib.hid (fun u => F1.out (50 * D) (m1 : Int) u (by omega) (by omega) (by omega))
              have FB := Lib.hid (fun u => F1.out (300000 * D) (3048 * (m1 : Int)) u (by omega) (by omega) (by omega))
              skip
              have d8 : (50 * D / (m1 : Int) != 50 * D / (m1 : Int)) = false := by simp
              have d9 : (300000 * D / (3048 * (m1 : Int)) != 300000 * D / (3048 * (m1 : Int))) = false := by simp
              clear hc hgl e10 e11 lM1 bq bq0 em2 e13
              replace ey1 := Lib.hid ey1
              replace ex1 := Lib.hid ex1
              replace eD := Lib.hid eD
              rw [← eDD]
              replace eDD := Lib.hid eDD
              go_wp2_with fail
              refine region_moves (fun u => u.cell? ⟨g5, off6 + m1, none⟩ = some (.int .i64 y1) ∧ u.cell? ⟨g5, off6, none⟩ = some (.int .i64 x1)) [] [(.free, 0), (.free, 1), (.free, 2), (.take, 3), (.free, 4), (.free, 5), (.take, 6), (.free, 7), (.free, 8)] _ (by kernel_rfl) (by kernel_rfl) (by kernel_rfl) (by kernel_rfl) (by decide) rfl (fun _ _ _ _ _ h => h) ?_
              simp only [List.filterMap_cons, List.filterMap_nil, List.getElem?_toArray, List.getElem?_cons_zero, List.getElem?_cons_succ, Option.map_some]
              iterate 3
                first
                  | (refine mv_free ?_ (Or.inl ⟨by rfl, ?_⟩) (⟨r1, r2⟩) ?_
                     rotate_left 1
                     · intro u
                       go_simp
                       try simp only [d1]
                       try simp only [d2]
                       try simp only [d3]
                       try with_reducible rfl
                     simp only [Act.put, List.setIfInBounds_toArray, List.set_cons_zero, List.set_cons_succ])
                  | (refine mv_free _ (Or.inr ⟨by rfl, rfl⟩) (⟨r1, r2⟩) ?_
                     simp only [Act.put, List.setIfInBounds_toArray, List.set_cons_zero, List.set_cons_succ])
              iterate 1
                first
                  | (refine mv_take ?_ (Or.inl ⟨by rfl, ?_⟩) (⟨r1, r2⟩) ?_
                     rotate_left 1
                     · intro u hu
                       (try dsimp only at hu)
                       go_simp
                       try with_reducible rfl
                     simp only [Act.put, List.setIfInBounds_toArray, List.set_cons_zero, List.set_cons_succ])
                  | (refine mv_take _ (Or.inr ⟨by rfl, rfl⟩) (⟨r1, r2⟩) ?_
                     simp only [Act.put, List.setIfInBounds_toArray, List.set_cons_zero, List.set_cons_succ])
              iterate 2
                first
                  | (refine mv_free ?_ (Or.inl ⟨by rfl, ?_⟩) (⟨r1, r2⟩) ?_
                     rotate_left 1
                     · intro u
                       go_simp
                       try simp only [d1]
                       try simp only [d2]
                       try simp only [d3]
                       try with_reducible rfl
                     simp only [Act.put, List.setIfInBounds_toArray, List.set_cons_zero, List.set_cons_succ])
                  | (refine mv_free _ (Or.inr ⟨by rfl, rfl⟩) (⟨r1, r2⟩) ?_
                     simp only [Act.put, List.setIfInBounds_toArray, List.set_cons_zero, List.set_cons_succ])
              iterate 1
                first
                  | (refine mv_take ?_ (Or.inl ⟨by rfl, ?_⟩) (⟨r1, r2⟩) ?_
                     rotate_left 1
                     · intro u hu
                       (try dsimp only at hu)
                       go_simp
                       try with_reducible rfl
                     simp only [Act.put, List.setIfInBounds_toArray, List.set_cons_zero, List.set_cons_succ])
                  | (refine mv_take _ (Or.inr ⟨by rfl, rfl⟩) (⟨r1, r2⟩) ?_
                     simp only [Act.put, List.setIfInBounds_toArray, List.set_cons_zero, List.set_cons_succ])
              iterate 2
                first
                  | (refine mv_free ?_ (Or.inl ⟨by rfl, ?_⟩) (⟨r1, r2⟩) ?_
                     rotate_left 1
                     · intro u
                       go_simp
                       try simp only [d1]
                       try simp only [d2]
                       try simp only [d3]
                       try with_reducible rfl
                     simp only [Act.put, List.setIfInBounds_toArray, List.set_cons_zero, List.set_cons_succ])
                  | (refine mv_free _ (Or.inr ⟨by rfl, rfl⟩) (⟨r1, r2⟩) ?_
                     simp only [Act.put, List.setIfInBounds_toArray, List.set_cons_zero, List.set_cons_succ])
              refine mv_done ?_
              go_wp2_with fail
              refine (FA.out _).mono ?_
              rintro e w18 ⟨rfl, rfl⟩
              go_wp2_with fail
              refine (FB.out _).mono ?_
              rintro e w18 ⟨rfl, rfl⟩
              go_wp2
              go_roundw
              case rel => exact ⟨k + 1, _, M, by omega, rfl, by go_num, h17.drew, Lib.hid ⟨m17.out.drew, o17.out, z17.out⟩⟩
              case measure => simp [intOf]; omega
    · have hge : (H.length : Int) ≤ (k : Int) := by omega
      have RSx := Lib.hid (RS.out b L _ hS.out.1)
      clear hS
      go_wp2_with fail
      refine RSx.out.mono ?_
      rintro e w3 ⟨rfl, m3, bs3⟩
      have hb3 := below_put hb bs3 hB.out.1
      clear hb bs3
      go_wp2_with fail
      refine (LE.out b [] _ m3).mono ?_
      rintro e w4 ⟨rfl, rfl⟩
      clear m3
      go_wp2_with fail
      refine (LV.out _).mono ?_
      rintro e w20 ⟨rfl, hb20⟩
      have hb21 := Lib.hid (hb3.trans (hb20.mono (hb3).size))
      clear hb20
      go_wp2
      go_ret
      exact ⟨rfl, hb21.out⟩
end Go.Proofs.Ytflcagcekhgjcaa
