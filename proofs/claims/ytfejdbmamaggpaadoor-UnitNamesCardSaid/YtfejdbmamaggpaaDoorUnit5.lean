/- The law UnitNames; walked. -/
import Derived.Test.YtfejdbmamaggpaaDoorUnit4
import Derived.Deep.CutRange
namespace Go.Proofs.YtfejdbmamaggpaaDoor
open Go.ChangeShapes Go.WideShapes Go.ChangeAt Go.RowKit
set_option linter.unusedVariables false
set_option linter.unusedSimpArgs false
set_option maxRecDepth 100000 in
set_option maxHeartbeats 8000000 in
theorem law_UnitNames (u : Int) (s : ByteArray) (w : World) (ht : Pw10 w) : Calls Tryd.prog 3 #[.int .i64 u, .string s] w fun e w' => e = .returned (.bool true) ∧ Below w.heap.size w w' := by
  have LV := Lib.hid (fun v (k : Below w.heap.size w v) => lives37 v (ht.bel k))
  have NS := Lib.hid (rnames w)
  have KD := fun v => ukind u v
  have UN := fun v => uname u v
  have TH := fun v => rthere u v
  have RK := fun v => rkind u v
  have FD := Lib.hid (fun v => ufind s v)
  obtain ⟨M, hM0, hM⟩ : ∃ M : Nat, M ≤ 15 ∧ ∀ k, k < 15 → (uN k = s ↔ k = M) := by
    by_cases q : ∃ k, k < 15 ∧ uN k = s
    · obtain ⟨m, hm, e⟩ := q
      exact ⟨m, by omega, fun k hk => ⟨fun h => uN_inj hk hm (h.trans e.symm), fun h => by rw [h]; exact e⟩⟩
    · exact ⟨15, by omega, fun k hk => ⟨fun h => absurd ⟨k, hk, h⟩ q, fun h => by omega⟩⟩
  have hM := Lib.hid hM
  obtain ⟨p, ep⟩ : ∃ p, unB u = p := ⟨_, rfl⟩
  rw [ep] at KD TH
  obtain ⟨kd, ekd⟩ : ∃ z, uKd u = z := ⟨_, rfl⟩
  obtain ⟨nm, enm⟩ : ∃ z, uNm u = z := ⟨_, rfl⟩
  rw [ekd] at KD
  rw [enm] at UN
  replace KD := Lib.hid KD
  replace TH := Lib.hid TH
  replace UN := Lib.hid UN
  replace RK := Lib.hid RK
  clear ht
  go_enter Tryd.func3, Tryd.ntmps3
  go_wp2_with fail
  refine NS.out.mono ?_
  rintro e w1 ⟨g, rfl, hT, hb⟩
  have h1 := Lib.hid hb
  have HT := Lib.hid (fun v (k : Below w1.heap.size w1 v) => hT.bel k)
  clear hb hT NS
  go_wp2_with fail
  refine (KD.out w1).mono ?_
  rintro e w2 ⟨rfl, hb⟩
  have k2 := Lib.hid (show Below w1.heap.size w1 w2 from hb)
  clear hb
  go_wp2_with fail
  refine (TH.out w2).mono ?_
  rintro e w3 ⟨rfl, rfl⟩
  go_upto_if 21 with (fail)
  go_cut [] from 8 (fun v => Hid (Below w1.heap.size w1 v))
  case first =>
    cases p
    · have e1 : kd = 0 := by rw [← ekd]; exact if_neg (by rw [ep]; simp)
      have e2 : nm = ⟨#[]⟩ := by rw [← enm]; exact if_neg (by rw [ep]; simp)
      subst e1 e2
      go_wp2_with fail
      refine (UN.out w2).mono ?_
      rintro e w4 ⟨rfl, hb⟩
      have k4 := Lib.hid (show Below w1.heap.size w1 w4 from k2.out.trans (hb.mono k2.out.size))
      clear hb
      go_wp2_with fail
      go_meet
      case rel => exact k4
    · obtain ⟨k, rfl, hk⟩ := unB_k ep
      have e1 : kd = uK k := by rw [← ekd]; exact if_pos ep
      have e2 : nm = uN k := by rw [← enm]; exact if_pos ep
      have RK := RK.out
      rw [rkV_is hk, ← e1] at RK
      have RK := Lib.hid RK
      have HN := HT.out w2 k2.out
      have x0 := HN.2 k hk
      rw [← e2] at x0
      have hg := HN.1
      have j1 : (k : Int) < 15 := by omega
      have j3 : 0 ≤ (k : Int) := by omega
      clear HN e1 e2 ekd enm ep
      have n1 : (nm.toList != nm.toList) = false := by simp
      have n2 : (nm.toList == nm.toList) = true := by simp
      have n3 : (kd != kd) = false := by simp
      go_upto_region 6 with (fail)
      refine region_moves (fun v => v.cell? ⟨g, k, none⟩ = some (.string nm)) [] [(.free, 0), (.free, 2), (.free, 3), (.free, 4), (.take, 5), (.step, 1), (.free, 6), (.free, 7), (.free, 8), (.free, 9), (.step, 10), (.free, 11), (.free, 12), (.free, 13), (.free, 14), (.free, 15), (.free, 16)] _ (by kernel_rfl) (by kernel_rfl) (by kernel_rfl) (by kernel_rfl) (by decide) rfl (fun _ _ _ _ _ h => h) ?_
      simp only [List.filterMap_cons, List.filterMap_nil, List.getElem?_toArray, List.getElem?_cons_zero, List.getElem?_cons_succ, Option.map_some]
      iterate 4
        first
          | (refine mv_free ?_ (Or.inl ⟨by rfl, ?_⟩) (x0) ?_
             rotate_left 1
             · intro u
               go_simp
               try simp only [d1]
               try simp only [d2]
               try simp only [d3]
               try with_reducible rfl
             simp only [Act.put, List.setIfInBounds_toArray, List.set_cons_zero, List.set_cons_succ])
          | (refine mv_free _ (Or.inr ⟨by rfl, rfl⟩) (x0) ?_
             simp only [Act.put, List.setIfInBounds_toArray, List.set_cons_zero, List.set_cons_succ])
      iterate 1
        first
          | (refine mv_take ?_ (Or.inl ⟨by rfl, ?_⟩) (x0) ?_
             rotate_left 1
             · intro u hu
               (try dsimp only at hu)
               go_simp
               try with_reducible rfl
             simp only [Act.put, List.setIfInBounds_toArray, List.set_cons_zero, List.set_cons_succ])
          | (refine mv_take _ (Or.inr ⟨by rfl, rfl⟩) (x0) ?_
             simp only [Act.put, List.setIfInBounds_toArray, List.set_cons_zero, List.set_cons_succ])
      refine mv_step (fun K hK => ?_)
      go_simp
      refine (UN.out _).mono ?_
      rintro e w4 ⟨rfl, hb⟩
      have k4 := Lib.hid (show Below w1.heap.size w1 w4 from k2.out.drew.trans (hb.mono k2.out.size))
      have x4 : w4.cell? ⟨g, k, none⟩ = some (.string nm) := (bc hb hg).trans x0
      clear hb
      go_wp2_with fail
      refine hK.out _ _ _ (fun v hv => hv) (x4) ?_
      clear hK K
      iterate 4
        first
          | (refine mv_free ?_ (Or.inl ⟨by rfl, ?_⟩) (x4) ?_
             rotate_left 1
             · intro u
               go_simp
               try simp only [d1]
               try simp only [d2]
               try simp only [d3]
               try with_reducible rfl
             simp only [Act.put, List.setIfInBounds_toArray, List.set_cons_zero, List.set_cons_succ])
          | (refine mv_free _ (Or.inr ⟨by rfl, rfl⟩) (x4) ?_
             simp only [Act.put, List.setIfInBounds_toArray, List.set_cons_zero, List.set_cons_succ])
      refine mv_step (fun K hK => ?_)
      go_simp
      refine (RK.out _).mono ?_
      rintro e w5 ⟨rfl, rfl⟩
      go_wp2_with fail
      refine hK.out _ _ _ (fun v hv => hv) (x4) ?_
      clear hK K
      iterate 6
        first
          | (refine mv_free ?_ (Or.inl ⟨by rfl, ?_⟩) (x4) ?_
             rotate_left 1
             · intro u
               go_simp
               try simp only [d1]
               try simp only [d2]
               try simp only [d3]
               try with_reducible rfl
             simp only [Act.put, List.setIfInBounds_toArray, List.set_cons_zero, List.set_cons_succ])
          | (refine mv_free _ (Or.inr ⟨by rfl, rfl⟩) (x4) ?_
             simp only [Act.put, List.setIfInBounds_toArray, List.set_cons_zero, List.set_cons_succ])
      refine mv_done ?_
      go_wp2_with fail
      go_meet
      case rel => exact k4
  case rest =>
    have k4 := hcut
    have l0 := Lib.hid (show Below w.heap.size w wc from h1.out.trans (k4.out.mono h1.out.size))
    clear KD TH UN RK hcut k2
    go_wp2_with fail
    go_loopw [8, 9, 10] (fun x y i v => ∃ k : Nat, k ≤ 15 ∧ x = .int .i64 (if M < k then (M : Int) else 0) ∧ y = .bool (decide (M < k)) ∧ i = .int .i64 (k : Int) ∧ Hid (Below w1.heap.size w1 v)) (fun _ _ i _ => 15 - (intOf i).toNat)
    case atStart => exact ⟨0, by omega, rfl, rfl, rfl, k4⟩
    case round =>
      obtain ⟨k, hk, rfl, rfl, rfl, hb⟩ := hrel
      generalize wr = v at *
      by_cases hlt : k < 15
      · have HN := HT.out v hb.out
        have x0 := HN.2 k hlt
        have hg := HN.1
        have j1 : (k : Int) < 15 := by omega
        have j2 : IntKind.i64.wrap ((k : Int) + 1) = (k : Int) + 1 := by rw [IntKind.wrap_i64]; omega
        have j3 : 0 ≤ (k : Int) := by omega
        have hMk := Lib.hid (hM.out k hlt)
        clear HN
        obtain ⟨n0, e0⟩ : ∃ n0, uN k = n0 := ⟨_, rfl⟩
        rw [e0] at x0 hMk
        obtain ⟨xa, exa⟩ : ∃ z, (if M < k then (M : Int) else 0) = z := ⟨_, rfl⟩
        obtain ⟨xb, exb⟩ : ∃ z, decide (M < k) = z := ⟨_, rfl⟩
        have EXA := Lib.hid exa
        have EXB := Lib.hid exb
        rw [exa, exb]
        clear e0 exa exb
        by_cases z : n0 = s
        · have hkM := Lib.hid (hMk.out.1 z)
          have z1 : (n0.toList == s.toList) = true := by rw [z]; simp
          clear z
          go_wp2
          go_roundw
          case rel => exact ⟨k + 1, by omega, by rw [if_pos (by have := hkM.out; omega), ← hkM.out], by rw [decide_eq_true (by have := hkM.out; omega)], by first | rfl | go_num, hb⟩
          case measure => simp [intOf]; omega
        · have hkM : k ≠ M := fun h => z (hMk.out.2 h)
          have z1 : (n0.toList == s.toList) = false := beq_eq_false_iff_ne.2 (fun h => z (bytes_inj h))
          have EA2 := Lib.hid (show (if M < k + 1 then (M : Int) else 0) = xa by rw [← EXA.out]; by_cases q : M < k; rw [if_pos q, if_pos (by omega)]; rw [if_neg q, if_neg (by omega)])
          have EB2 := Lib.hid (show decide (M < k + 1) = xb by rw [← EXB.out]; by_cases q : M < k; rw [decide_eq_true q, decide_eq_true (by omega)]; rw [decide_eq_false q, decide_eq_false (by omega)])
          go_wp2
          go_roundw
          case rel => exact ⟨k + 1, by omega, by rw [EA2.out], by rw [EB2.out], by first | rfl | go_num, hb⟩
          case measure => simp [intOf]; omega
      · obtain rfl : k = 15 := by omega
        have l1 := Lib.hid (show Below w.heap.size w v from h1.out.trans (hb.out.mono h1.out.size))
        by_cases q : M < 15
        · rw [if_pos q, decide_eq_true q]
          have r1 : ((M : Int) == (M : Int)) = true := by simp
          go_wp2_with fail
          refine (FD.out v).mono ?_
          rintro e u5 ⟨⟨m, h5⟩, hb5⟩
          have l5 := Lib.hid (show Below w.heap.size w u5 from l1.out.trans (hb5.mono l1.out.size))
          rcases h5 with ⟨hm, em, rfl⟩ | ⟨hn, rfl⟩
          · obtain rfl : m = M := (hM.out m hm).1 em
            clear hb5 em
            go_wp2_with fail
            refine (LV.out u5 l5.out).mono ?_
            rintro e u6 ⟨rfl, hb6⟩
            have l6 := Lib.hid (show Below w.heap.size w u6 from l5.out.trans (hb6.mono l5.out.size))
            clear hb6
            go_wp2
            go_ret
            exact ⟨rfl, l6.out⟩
          · exact absurd ((hM.out M q).2 rfl) (hn M q)
        · rw [if_neg q, decide_eq_false q]
          go_wp2_with fail
          refine (FD.out v).mono ?_
          rintro e u5 ⟨⟨m, h5⟩, hb5⟩
          have l5 := Lib.hid (show Below w.heap.size w u5 from l1.out.trans (hb5.mono l1.out.size))
          rcases h5 with ⟨hm, em, rfl⟩ | ⟨hn, rfl⟩
          · exact absurd ((hM.out m hm).1 em) (by omega)
          · clear hb5 hn
            go_wp2_with fail
            refine (LV.out u5 l5.out).mono ?_
            rintro e u6 ⟨rfl, hb6⟩
            have l6 := Lib.hid (show Below w.heap.size w u6 from l5.out.trans (hb6.mono l5.out.size))
            clear hb6
            go_wp2
            go_ret
            exact ⟨rfl, l6.out⟩
end Go.Proofs.YtfejdbmamaggpaaDoor
