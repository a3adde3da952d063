/- The law LabelBack; walked. -/
import Derived.Test.YtffhhdjcodapjaaLabel4
namespace Go.Proofs.Ytffhhdjcodapjaa
open Go.ChangeShapes Go.WideShapes Go.ChangeAt Go.RowKit
set_option linter.unusedVariables false
set_option linter.unusedSimpArgs false
theorem abs01l (n : Int) (w : World) (h : -4611686018427387904 ≤ n) : Calls Try.prog 26 #[.int .i64 n] w fun e w' => e = .returned (.int .i64 (if n < 0 then -n else n)) ∧ w = w' := by
  by_cases c : n < 0
  · rw [if_pos c]
    go_enter Try.func26, Try.ntmps26
    go_wp2
    go_ret
    exact ⟨rfl, rfl⟩
  · rw [if_neg c]
    go_enter Try.func26, Try.ntmps26
    go_wp2
    go_ret
    exact ⟨rfl, rfl⟩
theorem near_scl {v sc q : Int} (s1 : 1 ≤ sc) (v0 : -274877906944 < v) (v1 : v < 274877906944) (e : q = qX v sc) : 2 * (if q * sc - v < 0 then -(q * sc - v) else q * sc - v) ≤ sc := by
  have c : c09 v (-274877906944) 274877906944 = v := by unfold c09; omega
  unfold qX at e
  rw [c] at e
  have a := Int.mul_ediv_add_emod (v + sc / 2) sc
  have b := Int.emod_nonneg (v + sc / 2) (show sc ≠ 0 by omega)
  have d := Int.emod_lt_of_pos (v + sc / 2) (show 0 < sc by omega)
  rw [← e, Int.mul_comm] at a
  split <;> omega
set_option maxRecDepth 100000 in
set_option maxHeartbeats 8000000 in
theorem law_LabelBack (a : Option Addr) (cap : Nat) (rows : List (List Value)) (av : Option Addr) (cv : Nat) (VL : List Int) (sa : Option Addr) (cs : Nat) (SL : List Int) (w : World) (ht : Tab [some .i64, some .i64, some .i64, none] w a rows) (hl : rows.length ≤ maxLen) (hc : rows.length ≤ cap) (hv : RowIs .i64 w av VL) (hs : RowIs .i64 w sa SL) (hlv : VL.length ≤ maxLen) (hls : SL.length ≤ maxLen) :
    Calls Try.prog 6 #[.slice a rows.length cap, .slice av VL.length cv, .slice sa SL.length cs] w fun e w' => e = .returned (.bool true) ∧ Below w.heap.size w w' := by
  have HL := labs_of_tab ht
  clear ht
  obtain ⟨n, hn⟩ : ∃ n, rows.length = n := ⟨_, rfl⟩
  rw [hn] at HL hl hc ⊢
  clear hn
  generalize (fun i => lbI rows i 0) = NU at HL
  generalize (fun i => lbI rows i 1) = BI at HL
  generalize (fun i => lbI rows i 2) = SC at HL
  generalize (lbS rows) = SG at HL
  by_cases hbig : 100 < n
  · have i1 : (100 : Int) < (n : Int) := by omega
    clear HL hv hs
    unfold maxLen at hl
    go_enter Try.func6, Try.ntmps6
    go_wp2_with (go_at_call 23; refine (lives30 _).mono ?_; rintro e w1 ⟨rfl, hb2⟩)
    go_ret
    exact ⟨rfl, hb2⟩
  have i1 : ¬ (100 : Int) < (n : Int) := by omega
  cases hB : labB n NU BI SC
  · have WN := Lib.hid (lbwords_no a cap n NU BI SC SG av sa cv cs VL.length SL.length w HL hl hc hB)
    clear HL hv hs hB
    unfold maxLen at hl
    go_enter Try.func6, Try.ntmps6
    go_wp2_with (go_at_call 24; refine (WN.out).mono ?_; rintro e w1 ⟨rfl, hb1⟩)
    go_wp2_with (go_at_call 23; refine (lives30 _).mono ?_; rintro e w1 ⟨rfl, hb2⟩)
    go_ret
    exact ⟨rfl, hb1.trans (hb2.mono hb1.size)⟩
  by_cases hlen : VL.length = n ∧ SL.length = n
  · obtain ⟨lv, ls⟩ := hlen
    have WN := Lib.hid (lbwords_any a cap n NU BI SC SG av sa cv cs VL SL w HL hl hc hB hv hs lv ls)
    have RD := Lib.hid (fun gw u (k : Below w.heap.size w u) hw st => lbread_ok a cap n NU BI SC SG VL SL gw u (HL.below k) hl hc hB hw st)
    obtain ⟨n1, n2, nB⟩ := labB_ok hB
    have HL' := Lib.hid HL
    have HV := Lib.hid hv
    have HS := Lib.hid hs
    clear HL hv hs hB hlv hls
    rw [lv, ls] at WN ⊢
    unfold maxLen at hl
    go_enter Try.func6, Try.ntmps6
    go_wp2_with fail
    refine WN.out.mono ?_
    rintro e w1 (⟨g1, g2, rfl, hR, hG⟩ | ⟨rfl, hb1⟩)
    · have RD1 := Lib.hid (RD.out g1 w1 hR.bel hR.r1 hG)
      replace hR := Lib.hid hR
      replace hG := Lib.hid hG
      clear WN RD
      go_wp2_with fail
      refine RD1.out.mono ?_
      rintro e w2 ⟨g3, g4, rfl, hQ⟩
      have hb2 := Lib.hid (hR.out.bel.trans (hQ.bel.mono hR.out.bel.size))
      have hR2 := Lib.hid (hR.out.next hQ.bel)
      replace hQ := Lib.hid hQ
      clear RD1 hR
      go_wp2
      go_loopw [13] (fun i u => ∃ k : Nat, k ≤ n ∧ i = .int .i64 (k : Int) ∧ Hid (Below w2.heap.size w2 u)) (fun i _ => n - (intOf i).toNat)
      case atStart => exact ⟨0, by omega, rfl, Lib.hid (Below.refl _ _)⟩
      case round =>
        obtain ⟨k, hk, rfl, hq⟩ := hrel
        have hbu := Lib.hid (hb2.out.trans (hq.out.mono hb2.out.size))
        by_cases hlt : k < n
        · have j1 : (k : Int) < (n : Int) := by omega
          have j2 : IntKind.i64.wrap ((k : Int) + 1) = (k : Int) + 1 := by rw [IntKind.wrap_i64]; omega
          have hl1 := lb_ok (nB k hlt)
          obtain ⟨b, off, ea, hbb, -, -, k2, -⟩ := (HL'.out.below hbu.out).at hlt
          subst ea
          obtain ⟨vb, vo, ev, hvb, kv⟩ := (HV.out.below hbu.out).at (show k < VL.length by omega)
          subst ev
          obtain ⟨sb, so, es, hsb, ks⟩ := (HS.out.below hbu.out).at (show k < SL.length by omega)
          subst es
          have p1 := (rowIs_bel hR2.out.r2 hq.out).cell hlt
          have p3 := (rowIs_bel hQ.out.r1 hq.out).cell hlt
          have p5 := (rowIs_bel hQ.out.r2 hq.out).cell hlt
          have near := Lib.hid (fun (e : lPc BI SC SG VL k = false) (v0 : -1000000000 < VL.getD k 0) (v1 : VL.getD k 0 < 1000000000) => near_scl hl1.2.2.2.2.1 (show -274877906944 < VL.getD k 0 by omega) (by omega) (show qN (SG k) (BI k) (SC k) (VL.getD k 0) = qX (VL.getD k 0) (SC k) by unfold lPc at e; simpa using e))
          have hRb : -281474976710656 ≤ lRv BI SC SG VL k ∧ lRv BI SC SG VL k ≤ 281474976710656 := by
            have q := qN_bd (sg := SG k) (sc := SC k) (v := VL.getD k 0) hl1.2.2.1 hl1.2.2.2.1
            have l := loI_bd (sg := SG k) hl1.2.2.1 hl1.2.2.2.1
            have p := pwI_bd (b := BI k) (by omega) hl1.2.2.2.1
            have s1 := hl1.2.2.2.2.1
            have s2 := hl1.2.2.2.2.2
            unfold lRv
            have m := Int.mul_le_mul_of_nonneg_right (show qN (SG k) (BI k) (SC k) (VL.getD k 0) ≤ 262144 by omega) (show 0 ≤ SC k by omega)
            have m2 := Int.mul_le_mul_of_nonneg_right (show -262144 ≤ qN (SG k) (BI k) (SC k) (VL.getD k 0) by omega) (show 0 ≤ SC k by omega)
            omega
          rw [show qN (SG k) (BI k) (SC k) (VL.getD k 0) * SC k = lRv BI SC SG VL k from rfl] at near
          have p2 := kv
          have p4 := k2
          generalize lRv BI SC SG VL k = R at *
          generalize lPc BI SC SG VL k = C at *
          generalize SC k = z at *
          generalize VL.getD k 0 = v at *
          generalize SL.getD k 0 = t at *
          clear nB hl1 HL' HV HS hbb hvb hsb kv k2
          go_upto_region 12 with (fail)
          refine region_moves (fun u => u.cell? ⟨g4, k, none⟩ = some (.int .i64 t) ∧ u.cell? ⟨sb, so + k, none⟩ = some (.int .i64 t)) [] [(.free, 0), (.free, 1), (.free, 2), (.take, 3), (.free, 4), (.free, 5), (.free, 6), (.take, 7), (.free, 8)] _ (by kernel_rfl) (by kernel_rfl) (by kernel_rfl) (by kernel_rfl) (by decide) rfl (fun _ _ _ _ _ h => h) ?_
          simp only [List.filterMap_cons, List.filterMap_nil, List.getElem?_toArray, List.getElem?_cons_zero, List.getElem?_cons_succ, Option.map_some]
          iterate 3
            first
              | (refine mv_free ?_ (Or.inl ⟨by rfl, ?_⟩) (⟨p5, ks⟩) ?_
                 rotate_left 1
                 · intro u
                   go_simp
                   try simp only [d1]
                   try simp only [d2]
                   try simp only [d3]
                   try with_reducible rfl
                 simp only [Act.put, List.setIfInBounds_toArray, List.set_cons_zero, List.set_cons_succ])
              | (refine mv_free _ (Or.inr ⟨by rfl, rfl⟩) (⟨p5, ks⟩) ?_
                 simp only [Act.put, List.setIfInBounds_toArray, List.set_cons_zero, List.set_cons_succ])
          iterate 1
            first
              | (refine mv_take ?_ (Or.inl ⟨by rfl, ?_⟩) (⟨p5, ks⟩) ?_
                 rotate_left 1
                 · intro u hu
                   (try dsimp only at hu)
                   go_simp
                   try with_reducible rfl
                 simp only [Act.put, List.setIfInBounds_toArray, List.set_cons_zero, List.set_cons_succ])
              | (refine mv_take _ (Or.inr ⟨by rfl, rfl⟩) (⟨p5, ks⟩) ?_
                 simp only [Act.put, List.setIfInBounds_toArray, List.set_cons_zero, List.set_cons_succ])
          iterate 3
            first
              | (refine mv_free ?_ (Or.inl ⟨by rfl, ?_⟩) (⟨p5, ks⟩) ?_
                 rotate_left 1
                 · intro u
                   go_simp
                   try simp only [d1]
                   try simp only [d2]
                   try simp only [d3]
                   try with_reducible rfl
                 simp only [Act.put, List.setIfInBounds_toArray, List.set_cons_zero, List.set_cons_succ])
              | (refine mv_free _ (Or.inr ⟨by rfl, rfl⟩) (⟨p5, ks⟩) ?_
                 simp only [Act.put, List.setIfInBounds_toArray, List.set_cons_zero, List.set_cons_succ])
          iterate 1
            first
              | (refine mv_take ?_ (Or.inl ⟨by rfl, ?_⟩) (⟨p5, ks⟩) ?_
                 rotate_left 1
                 · intro u hu
                   (try dsimp only at hu)
                   go_simp
                   try with_reducible rfl
                 simp only [Act.put, List.setIfInBounds_toArray, List.set_cons_zero, List.set_cons_succ])
              | (refine mv_take _ (Or.inr ⟨by rfl, rfl⟩) (⟨p5, ks⟩) ?_
                 simp only [Act.put, List.setIfInBounds_toArray, List.set_cons_zero, List.set_cons_succ])
          iterate 1
            first
              | (refine mv_free ?_ (Or.inl ⟨by rfl, ?_⟩) (⟨p5, ks⟩) ?_
                 rotate_left 1
                 · intro u
                   go_simp
                   try simp only [d1]
                   try simp only [d2]
                   try simp only [d3]
                   try with_reducible rfl
                 simp only [Act.put, List.setIfInBounds_toArray, List.set_cons_zero, List.set_cons_succ])
              | (refine mv_free _ (Or.inr ⟨by rfl, rfl⟩) (⟨p5, ks⟩) ?_
                 simp only [Act.put, List.setIfInBounds_toArray, List.set_cons_zero, List.set_cons_succ])
          refine mv_done ?_
          clear p5 ks
          rcases (show C = true ∨ (C = false ∧ v ≤ -1000000000) ∨ (C = false ∧ -1000000000 < v ∧ 1000000000 ≤ v) ∨ (C = false ∧ -1000000000 < v ∧ v < 1000000000) by
            cases C
            · right
              rcases (show v ≤ -1000000000 ∨ (-1000000000 < v ∧ 1000000000 ≤ v) ∨ (-1000000000 < v ∧ v < 1000000000) by omega) with q | q | q
              · exact .inl ⟨rfl, q⟩
              · exact .inr (.inl ⟨rfl, q⟩)
              · exact .inr (.inr ⟨rfl, q⟩)
            · exact .inl rfl) with rfl | ⟨rfl, v0⟩ | ⟨rfl, v0, v1⟩ | ⟨rfl, v0, v1⟩
          · clear near
            go_wp2_with fail
            refine region_moves (fun u => u.cell? ⟨g2, k, none⟩ = some (.bool true) ∧ u.cell? ⟨vb, vo + k, none⟩ = some (.int .i64 v) ∧ u.cell? ⟨g3, k, none⟩ = some (.int .i64 R) ∧ u.cell? ⟨b, off + k * 4 + 2, none⟩ = some (.int .i64 z)) [] [(.free, 0), (.free, 1), (.free, 2), (.take, 3), (.free, 4), (.free, 5), (.free, 6), (.free, 7), (.free, 8), (.take, 9), (.free, 10), (.free, 11), (.free, 12), (.free, 13), (.free, 14), (.free, 15), (.take, 16), (.free, 17), (.free, 18), (.free, 19), (.free, 20), (.free, 21), (.free, 22), (.take, 23), (.free, 24), (.free, 25), (.free, 26), (.take, 27), (.free, 28), (.free, 31), (.free, 32), (.free, 33), (.free, 34), (.take, 35), (.step, 29), (.free, 30), (.free, 36), (.free, 37)] _ (by kernel_rfl) (by kernel_rfl) (by kernel_rfl) (by kernel_rfl) (by decide) rfl (fun _ _ _ _ _ h => h) ?_
            simp only [List.filterMap_cons, List.filterMap_nil, List.getElem?_toArray, List.getElem?_cons_zero, List.getElem?_cons_succ, Option.map_some]
            iterate 3
              first
                | (refine mv_free ?_ (Or.inl ⟨by rfl, ?_⟩) (⟨p1, p2, p3, p4⟩) ?_
                   rotate_left 1
                   · intro u
                     go_simp
                     try simp only [d1]
                     try simp only [d2]
                     try simp only [d3]
                     try with_reducible rfl
                   simp only [Act.put, List.setIfInBounds_toArray, List.set_cons_zero, List.set_cons_succ])
                | (refine mv_free _ (Or.inr ⟨by rfl, rfl⟩) (⟨p1, p2, p3, p4⟩) ?_
                   simp only [Act.put, List.setIfInBounds_toArray, List.set_cons_zero, List.set_cons_succ])
            iterate 1
              first
                | (refine mv_take ?_ (Or.inl ⟨by rfl, ?_⟩) (⟨p1, p2, p3, p4⟩) ?_
                   rotate_left 1
                   · intro u hu
                     (try dsimp only at hu)
                     go_simp
                     try with_reducible rfl
                   simp only [Act.put, List.setIfInBounds_toArray, List.set_cons_zero, List.set_cons_succ])
                | (refine mv_take _ (Or.inr ⟨by rfl, rfl⟩) (⟨p1, p2, p3, p4⟩) ?_
                   simp only [Act.put, List.setIfInBounds_toArray, List.set_cons_zero, List.set_cons_succ])
            iterate 5
              first
                | (refine mv_free ?_ (Or.inl ⟨by rfl, ?_⟩) (⟨p1, p2, p3, p4⟩) ?_
                   rotate_left 1
                   · intro u
                     go_simp
                     try simp only [d1]
                     try simp only [d2]
                     try simp only [d3]
                     try with_reducible rfl
                   simp only [Act.put, List.setIfInBounds_toArray, List.set_cons_zero, List.set_cons_succ])
                | (refine mv_free _ (Or.inr ⟨by rfl, rfl⟩) (⟨p1, p2, p3, p4⟩) ?_
                   simp only [Act.put, List.setIfInBounds_toArray, List.set_cons_zero, List.set_cons_succ])
            iterate 1
              first
                | (refine mv_take ?_ (Or.inl ⟨by rfl, ?_⟩) (⟨p1, p2, p3, p4⟩) ?_
                   rotate_left 1
                   · intro u hu
                     (try dsimp only at hu)
                     go_simp
                     try with_reducible rfl
                   simp only [Act.put, List.setIfInBounds_toArray, List.set_cons_zero, List.set_cons_succ])
                | (refine mv_take _ (Or.inr ⟨by rfl, rfl⟩) (⟨p1, p2, p3, p4⟩) ?_
                   simp only [Act.put, List.setIfInBounds_toArray, List.set_cons_zero, List.set_cons_succ])
            iterate 6
              first
                | (refine mv_free ?_ (Or.inl ⟨by rfl, ?_⟩) (⟨p1, p2, p3, p4⟩) ?_
                   rotate_left 1
                   · intro u
                     go_simp
                     try simp only [d1]
                     try simp only [d2]
                     try simp only [d3]
                     try with_reducible rfl
                   simp only [Act.put, List.setIfInBounds_toArray, List.set_cons_zero, List.set_cons_succ])
                | (refine mv_free _ (Or.inr ⟨by rfl, rfl⟩) (⟨p1, p2, p3, p4⟩) ?_
                   simp only [Act.put, List.setIfInBounds_toArray, List.set_cons_zero, List.set_cons_succ])
            iterate 1
              first
                | (refine mv_take ?_ (Or.inl ⟨by rfl, ?_⟩) (⟨p1, p2, p3, p4⟩) ?_
                   rotate_left 1
                   · intro u hu
                     (try dsimp only at hu)
                     go_simp
                     try with_reducible rfl
                   simp only [Act.put, List.setIfInBounds_toArray, List.set_cons_zero, List.set_cons_succ])
                | (refine mv_take _ (Or.inr ⟨by rfl, rfl⟩) (⟨p1, p2, p3, p4⟩) ?_
                   simp only [Act.put, List.setIfInBounds_toArray, List.set_cons_zero, List.set_cons_succ])
            iterate 6
              first
                | (refine mv_free ?_ (Or.inl ⟨by rfl, ?_⟩) (⟨p1, p2, p3, p4⟩) ?_
                   rotate_left 1
                   · intro u
                     go_simp
                     try simp only [d1]
                     try simp only [d2]
                     try simp only [d3]
                     try with_reducible rfl
                   simp only [Act.put, List.setIfInBounds_toArray, List.set_cons_zero, List.set_cons_succ])
                | (refine mv_free _ (Or.inr ⟨by rfl, rfl⟩) (⟨p1, p2, p3, p4⟩) ?_
                   simp only [Act.put, List.setIfInBounds_toArray, List.set_cons_zero, List.set_cons_succ])
            iterate 1
              first
                | (refine mv_take ?_ (Or.inl ⟨by rfl, ?_⟩) (⟨p1, p2, p3, p4⟩) ?_
                   rotate_left 1
                   · intro u hu
                     (try dsimp only at hu)
                     go_simp
                     try with_reducible rfl
                   simp only [Act.put, List.setIfInBounds_toArray, List.set_cons_zero, List.set_cons_succ])
                | (refine mv_take _ (Or.inr ⟨by rfl, rfl⟩) (⟨p1, p2, p3, p4⟩) ?_
                   simp only [Act.put, List.setIfInBounds_toArray, List.set_cons_zero, List.set_cons_succ])
            iterate 3
              first
                | (refine mv_free ?_ (Or.inl ⟨by rfl, ?_⟩) (⟨p1, p2, p3, p4⟩) ?_
                   rotate_left 1
                   · intro u
                     go_simp
                     try simp only [d1]
                     try simp only [d2]
                     try simp only [d3]
                     try with_reducible rfl
                   simp only [Act.put, List.setIfInBounds_toArray, List.set_cons_zero, List.set_cons_succ])
                | (refine mv_free _ (Or.inr ⟨by rfl, rfl⟩) (⟨p1, p2, p3, p4⟩) ?_
                   simp only [Act.put, List.setIfInBounds_toArray, List.set_cons_zero, List.set_cons_succ])
            iterate 1
              first
                | (refine mv_take ?_ (Or.inl ⟨by rfl, ?_⟩) (⟨p1, p2, p3, p4⟩) ?_
                   rotate_left 1
                   · intro u hu
                     (try dsimp only at hu)
                     go_simp
                     try with_reducible rfl
                   simp only [Act.put, List.setIfInBounds_toArray, List.set_cons_zero, List.set_cons_succ])
                | (refine mv_take _ (Or.inr ⟨by rfl, rfl⟩) (⟨p1, p2, p3, p4⟩) ?_
                   simp only [Act.put, List.setIfInBounds_toArray, List.set_cons_zero, List.set_cons_succ])
            iterate 5
              first
                | (refine mv_free ?_ (Or.inl ⟨by rfl, ?_⟩) (⟨p1, p2, p3, p4⟩) ?_
                   rotate_left 1
                   · intro u
                     go_simp
                     try simp only [d1]
                     try simp only [d2]
                     try simp only [d3]
                     try with_reducible rfl
                   simp only [Act.put, List.setIfInBounds_toArray, List.set_cons_zero, List.set_cons_succ])
                | (refine mv_free _ (Or.inr ⟨by rfl, rfl⟩) (⟨p1, p2, p3, p4⟩) ?_
                   simp only [Act.put, List.setIfInBounds_toArray, List.set_cons_zero, List.set_cons_succ])
            iterate 1
              first
                | (refine mv_take ?_ (Or.inl ⟨by rfl, ?_⟩) (⟨p1, p2, p3, p4⟩) ?_
                   rotate_left 1
                   · intro u hu
                     (try dsimp only at hu)
                     go_simp
                     try with_reducible rfl
                   simp only [Act.put, List.setIfInBounds_toArray, List.set_cons_zero, List.set_cons_succ])
                | (refine mv_take _ (Or.inr ⟨by rfl, rfl⟩) (⟨p1, p2, p3, p4⟩) ?_
                   simp only [Act.put, List.setIfInBounds_toArray, List.set_cons_zero, List.set_cons_succ])
            refine mv_step (fun K hK => ?_)
            go_simp
            refine hK.out _ _ _ (fun u hu => hu) (⟨p1, p2, p3, p4⟩) ?_
            clear hK K
            iterate 3
              first
                | (refine mv_free ?_ (Or.inl ⟨by rfl, ?_⟩) (⟨p1, p2, p3, p4⟩) ?_
                   rotate_left 1
                   · intro u
                     go_simp
                     try simp only [d1]
                     try simp only [d2]
                     try simp only [d3]
                     try with_reducible rfl
                   simp only [Act.put, List.setIfInBounds_toArray, List.set_cons_zero, List.set_cons_succ])
                | (refine mv_free _ (Or.inr ⟨by rfl, rfl⟩) (⟨p1, p2, p3, p4⟩) ?_
                   simp only [Act.put, List.setIfInBounds_toArray, List.set_cons_zero, List.set_cons_succ])
            refine mv_done ?_
            go_wp2
            go_roundw
            case rel => exact ⟨k + 1, by omega, by first | rfl | go_num, Lib.hid (hq.out.drew.drew)⟩
            case measure => simp [intOf] <;> omega
          · have d1 : decide (-1000000000 < v) = false := decide_eq_false (by omega)
            clear near
            go_wp2_with fail
            refine region_moves (fun u => u.cell? ⟨g2, k, none⟩ = some (.bool false) ∧ u.cell? ⟨vb, vo + k, none⟩ = some (.int .i64 v) ∧ u.cell? ⟨g3, k, none⟩ = some (.int .i64 R) ∧ u.cell? ⟨b, off + k * 4 + 2, none⟩ = some (.int .i64 z)) [] [(.free, 0), (.free, 1), (.free, 2), (.take, 3), (.free, 4), (.free, 5), (.free, 6), (.free, 7), (.free, 8), (.take, 9), (.free, 10), (.free, 11), (.free, 12), (.free, 13), (.free, 14), (.free, 15), (.take, 16), (.free, 17), (.free, 18), (.free, 19), (.free, 20), (.free, 21), (.free, 22), (.take, 23), (.free, 24), (.free, 25), (.free, 26), (.take, 27), (.free, 28), (.free, 31), (.free, 32), (.free, 33), (.free, 34), (.take, 35), (.step, 29), (.free, 30), (.free, 36), (.free, 37)] _ (by kernel_rfl) (by kernel_rfl) (by kernel_rfl) (by kernel_rfl) (by decide) rfl (fun _ _ _ _ _ h => h) ?_
            simp only [List.filterMap_cons, List.filterMap_nil, List.getElem?_toArray, List.getElem?_cons_zero, List.getElem?_cons_succ, Option.map_some]
            iterate 3
              first
                | (refine mv_free ?_ (Or.inl ⟨by rfl, ?_⟩) (⟨p1, p2, p3, p4⟩) ?_
                   rotate_left 1
                   · intro u
                     go_simp
                     try simp only [d1]
                     try simp only [d2]
                     try simp only [d3]
                     try with_reducible rfl
                   simp only [Act.put, List.setIfInBounds_toArray, List.set_cons_zero, List.set_cons_succ])
                | (refine mv_free _ (Or.inr ⟨by rfl, rfl⟩) (⟨p1, p2, p3, p4⟩) ?_
                   simp only [Act.put, List.setIfInBounds_toArray, List.set_cons_zero, List.set_cons_succ])
            iterate 1
              first
                | (refine mv_take ?_ (Or.inl ⟨by rfl, ?_⟩) (⟨p1, p2, p3, p4⟩) ?_
                   rotate_left 1
                   · intro u hu
                     (try dsimp only at hu)
                     go_simp
                     try with_reducible rfl
                   simp only [Act.put, List.setIfInBounds_toArray, List.set_cons_zero, List.set_cons_succ])
                | (refine mv_take _ (Or.inr ⟨by rfl, rfl⟩) (⟨p1, p2, p3, p4⟩) ?_
                   simp only [Act.put, List.setIfInBounds_toArray, List.set_cons_zero, List.set_cons_succ])
            iterate 5
              first
                | (refine mv_free ?_ (Or.inl ⟨by rfl, ?_⟩) (⟨p1, p2, p3, p4⟩) ?_
                   rotate_left 1
                   · intro u
                     go_simp
                     try simp only [d1]
                     try simp only [d2]
                     try simp only [d3]
                     try with_reducible rfl
                   simp only [Act.put, List.setIfInBounds_toArray, List.set_cons_zero, List.set_cons_succ])
                | (refine mv_free _ (Or.inr ⟨by rfl, rfl⟩) (⟨p1, p2, p3, p4⟩) ?_
                   simp only [Act.put, List.setIfInBounds_toArray, List.set_cons_zero, List.set_cons_succ])
            iterate 1
              first
                | (refine mv_take ?_ (Or.inl ⟨by rfl, ?_⟩) (⟨p1, p2, p3, p4⟩) ?_
                   rotate_left 1
                   · intro u hu
                     (try dsimp only at hu)
                     go_simp
                     try with_reducible rfl
                   simp only [Act.put, List.setIfInBounds_toArray, List.set_cons_zero, List.set_cons_succ])
                | (refine mv_take _ (Or.inr ⟨by rfl, rfl⟩) (⟨p1, p2, p3, p4⟩) ?_
                   simp only [Act.put, List.setIfInBounds_toArray, List.set_cons_zero, List.set_cons_succ])
            iterate 6
              first
                | (refine mv_free ?_ (Or.inl ⟨by rfl, ?_⟩) (⟨p1, p2, p3, p4⟩) ?_
                   rotate_left 1
                   · intro u
                     go_simp
                     try simp only [d1]
                     try simp only [d2]
                     try simp only [d3]
                     try with_reducible rfl
                   simp only [Act.put, List.setIfInBounds_toArray, List.set_cons_zero, List.set_cons_succ])
                | (refine mv_free _ (Or.inr ⟨by rfl, rfl⟩) (⟨p1, p2, p3, p4⟩) ?_
                   simp only [Act.put, List.setIfInBounds_toArray, List.set_cons_zero, List.set_cons_succ])
            iterate 1
              first
                | (refine mv_take ?_ (Or.inl ⟨by rfl, ?_⟩) (⟨p1, p2, p3, p4⟩) ?_
                   rotate_left 1
                   · intro u hu
                     (try dsimp only at hu)
                     go_simp
                     try with_reducible rfl
                   simp only [Act.put, List.setIfInBounds_toArray, List.set_cons_zero, List.set_cons_succ])
                | (refine mv_take _ (Or.inr ⟨by rfl, rfl⟩) (⟨p1, p2, p3, p4⟩) ?_
                   simp only [Act.put, List.setIfInBounds_toArray, List.set_cons_zero, List.set_cons_succ])
            iterate 6
              first
                | (refine mv_free ?_ (Or.inl ⟨by rfl, ?_⟩) (⟨p1, p2, p3, p4⟩) ?_
                   rotate_left 1
                   · intro u
                     go_simp
                     try simp only [d1]
                     try simp only [d2]
                     try simp only [d3]
                     try with_reducible rfl
                   simp only [Act.put, List.setIfInBounds_toArray, List.set_cons_zero, List.set_cons_succ])
                | (refine mv_free _ (Or.inr ⟨by rfl, rfl⟩) (⟨p1, p2, p3, p4⟩) ?_
                   simp only [Act.put, List.setIfInBounds_toArray, List.set_cons_zero, List.set_cons_succ])
            iterate 1
              first
                | (refine mv_take ?_ (Or.inl ⟨by rfl, ?_⟩) (⟨p1, p2, p3, p4⟩) ?_
                   rotate_left 1
                   · intro u hu
                     (try dsimp only at hu)
                     go_simp
                     try with_reducible rfl
                   simp only [Act.put, List.setIfInBounds_toArray, List.set_cons_zero, List.set_cons_succ])
                | (refine mv_take _ (Or.inr ⟨by rfl, rfl⟩) (⟨p1, p2, p3, p4⟩) ?_
                   simp only [Act.put, List.setIfInBounds_toArray, List.set_cons_zero, List.set_cons_succ])
            iterate 3
              first
                | (refine mv_free ?_ (Or.inl ⟨by rfl, ?_⟩) (⟨p1, p2, p3, p4⟩) ?_
                   rotate_left 1
                   · intro u
                     go_simp
                     try simp only [d1]
                     try simp only [d2]
                     try simp only [d3]
                     try with_reducible rfl
                   simp only [Act.put, List.setIfInBounds_toArray, List.set_cons_zero, List.set_cons_succ])
                | (refine mv_free _ (Or.inr ⟨by rfl, rfl⟩) (⟨p1, p2, p3, p4⟩) ?_
                   simp only [Act.put, List.setIfInBounds_toArray, List.set_cons_zero, List.set_cons_succ])
            iterate 1
              first
                | (refine mv_take ?_ (Or.inl ⟨by rfl, ?_⟩) (⟨p1, p2, p3, p4⟩) ?_
                   rotate_left 1
                   · intro u hu
                     (try dsimp only at hu)
                     go_simp
                     try with_reducible rfl
                   simp only [Act.put, List.setIfInBounds_toArray, List.set_cons_zero, List.set_cons_succ])
                | (refine mv_take _ (Or.inr ⟨by rfl, rfl⟩) (⟨p1, p2, p3, p4⟩) ?_
                   simp only [Act.put, List.setIfInBounds_toArray, List.set_cons_zero, List.set_cons_succ])
            iterate 5
              first
                | (refine mv_free ?_ (Or.inl ⟨by rfl, ?_⟩) (⟨p1, p2, p3, p4⟩) ?_
                   rotate_left 1
                   · intro u
                     go_simp
                     try simp only [d1]
                     try simp only [d2]
                     try simp only [d3]
                     try with_reducible rfl
                   simp only [Act.put, List.setIfInBounds_toArray, List.set_cons_zero, List.set_cons_succ])
                | (refine mv_free _ (Or.inr ⟨by rfl, rfl⟩) (⟨p1, p2, p3, p4⟩) ?_
                   simp only [Act.put, List.setIfInBounds_toArray, List.set_cons_zero, List.set_cons_succ])
            iterate 1
              first
                | (refine mv_take ?_ (Or.inl ⟨by rfl, ?_⟩) (⟨p1, p2, p3, p4⟩) ?_
                   rotate_left 1
                   · intro u hu
                     (try dsimp only at hu)
                     go_simp
                     try with_reducible rfl
                   simp only [Act.put, List.setIfInBounds_toArray, List.set_cons_zero, List.set_cons_succ])
                | (refine mv_take _ (Or.inr ⟨by rfl, rfl⟩) (⟨p1, p2, p3, p4⟩) ?_
                   simp only [Act.put, List.setIfInBounds_toArray, List.set_cons_zero, List.set_cons_succ])
            refine mv_step (fun K hK => ?_)
            go_simp
            refine hK.out _ _ _ (fun u hu => hu) (⟨p1, p2, p3, p4⟩) ?_
            clear hK K
            iterate 3
              first
                | (refine mv_free ?_ (Or.inl ⟨by rfl, ?_⟩) (⟨p1, p2, p3, p4⟩) ?_
                   rotate_left 1
                   · intro u
                     go_simp
                     try simp only [d1]
                     try simp only [d2]
                     try simp only [d3]
                     try with_reducible rfl
                   simp only [Act.put, List.setIfInBounds_toArray, List.set_cons_zero, List.set_cons_succ])
                | (refine mv_free _ (Or.inr ⟨by rfl, rfl⟩) (⟨p1, p2, p3, p4⟩) ?_
                   simp only [Act.put, List.setIfInBounds_toArray, List.set_cons_zero, List.set_cons_succ])
            refine mv_done ?_
            go_wp2
            go_roundw
            case rel => exact ⟨k + 1, by omega, by first | rfl | go_num, Lib.hid (hq.out.drew.drew)⟩
            case measure => simp [intOf] <;> omega
          · have d1 : decide (-1000000000 < v) = true := decide_eq_true (by omega)
            have d2 : decide (v < 1000000000) = false := decide_eq_false (by omega)
            clear near
            go_wp2_with fail
            refine region_moves (fun u => u.cell? ⟨g2, k, none⟩ = some (.bool false) ∧ u.cell? ⟨vb, vo + k, none⟩ = some (.int .i64 v) ∧ u.cell? ⟨g3, k, none⟩ = some (.int .i64 R) ∧ u.cell? ⟨b, off + k * 4 + 2, none⟩ = some (.int .i64 z)) [] [(.free, 0), (.free, 1), (.free, 2), (.take, 3), (.free, 4), (.free, 5), (.free, 6), (.free, 7), (.free, 8), (.take, 9), (.free, 10), (.free, 11), (.free, 12), (.free, 13), (.free, 14), (.free, 15), (.take, 16), (.free, 17), (.free, 18), (.free, 19), (.free, 20), (.free, 21), (.free, 22), (.take, 23), (.free, 24), (.free, 25), (.free, 26), (.take, 27), (.free, 28), (.free, 31), (.free, 32), (.free, 33), (.free, 34), (.take, 35), (.step, 29), (.free, 30), (.free, 36), (.free, 37)] _ (by kernel_rfl) (by kernel_rfl) (by kernel_rfl) (by kernel_rfl) (by decide) rfl (fun _ _ _ _ _ h => h) ?_
            simp only [List.filterMap_cons, List.filterMap_nil, List.getElem?_toArray, List.getElem?_cons_zero, List.getElem?_cons_succ, Option.map_some]
            iterate 3
              first
                | (refine mv_free ?_ (Or.inl ⟨by rfl, ?_⟩) (⟨p1, p2, p3, p4⟩) ?_
                   rotate_left 1
                   · intro u
                     go_simp
                     try simp only [d1]
                     try simp only [d2]
                     try simp only [d3]
                     try with_reducible rfl
                   simp only [Act.put, List.setIfInBounds_toArray, List.set_cons_zero, List.set_cons_succ])
                | (refine mv_free _ (Or.inr ⟨by rfl, rfl⟩) (⟨p1, p2, p3, p4⟩) ?_
                   simp only [Act.put, List.setIfInBounds_toArray, List.set_cons_zero, List.set_cons_succ])
            iterate 1
              first
                | (refine mv_take ?_ (Or.inl ⟨by rfl, ?_⟩) (⟨p1, p2, p3, p4⟩) ?_
                   rotate_left 1
                   · intro u hu
                     (try dsimp only at hu)
                     go_simp
                     try with_reducible rfl
                   simp only [Act.put, List.setIfInBounds_toArray, List.set_cons_zero, List.set_cons_succ])
                | (refine mv_take _ (Or.inr ⟨by rfl, rfl⟩) (⟨p1, p2, p3, p4⟩) ?_
                   simp only [Act.put, List.setIfInBounds_toArray, List.set_cons_zero, List.set_cons_succ])
            iterate 5
              first
                | (refine mv_free ?_ (Or.inl ⟨by rfl, ?_⟩) (⟨p1, p2, p3, p4⟩) ?_
                   rotate_left 1
                   · intro u
                     go_simp
                     try simp only [d1]
                     try simp only [d2]
                     try simp only [d3]
                     try with_reducible rfl
                   simp only [Act.put, List.setIfInBounds_toArray, List.set_cons_zero, List.set_cons_succ])
                | (refine mv_free _ (Or.inr ⟨by rfl, rfl⟩) (⟨p1, p2, p3, p4⟩) ?_
                   simp only [Act.put, List.setIfInBounds_toArray, List.set_cons_zero, List.set_cons_succ])
            iterate 1
              first
                | (refine mv_take ?_ (Or.inl ⟨by rfl, ?_⟩) (⟨p1, p2, p3, p4⟩) ?_
                   rotate_left 1
                   · intro u hu
                     (try dsimp only at hu)
                     go_simp
                     try with_reducible rfl
                   simp only [Act.put, List.setIfInBounds_toArray, List.set_cons_zero, List.set_cons_succ])
                | (refine mv_take _ (Or.inr ⟨by rfl, rfl⟩) (⟨p1, p2, p3, p4⟩) ?_
                   simp only [Act.put, List.setIfInBounds_toArray, List.set_cons_zero, List.set_cons_succ])
            iterate 6
              first
                | (refine mv_free ?_ (Or.inl ⟨by rfl, ?_⟩) (⟨p1, p2, p3, p4⟩) ?_
                   rotate_left 1
                   · intro u
                     go_simp
                     try simp only [d1]
                     try simp only [d2]
                     try simp only [d3]
                     try with_reducible rfl
                   simp only [Act.put, List.setIfInBounds_toArray, List.set_cons_zero, List.set_cons_succ])
                | (refine mv_free _ (Or.inr ⟨by rfl, rfl⟩) (⟨p1, p2, p3, p4⟩) ?_
                   simp only [Act.put, List.setIfInBounds_toArray, List.set_cons_zero, List.set_cons_succ])
            iterate 1
              first
                | (refine mv_take ?_ (Or.inl ⟨by rfl, ?_⟩) (⟨p1, p2, p3, p4⟩) ?_
                   rotate_left 1
                   · intro u hu
                     (try dsimp only at hu)
                     go_simp
                     try with_reducible rfl
                   simp only [Act.put, List.setIfInBounds_toArray, List.set_cons_zero, List.set_cons_succ])
                | (refine mv_take _ (Or.inr ⟨by rfl, rfl⟩) (⟨p1, p2, p3, p4⟩) ?_
                   simp only [Act.put, List.setIfInBounds_toArray, List.set_cons_zero, List.set_cons_succ])
            iterate 6
              first
                | (refine mv_free ?_ (Or.inl ⟨by rfl, ?_⟩) (⟨p1, p2, p3, p4⟩) ?_
                   rotate_left 1
                   · intro u
                     go_simp
                     try simp only [d1]
                     try simp only [d2]
                     try simp only [d3]
                     try with_reducible rfl
                   simp only [Act.put, List.setIfInBounds_toArray, List.set_cons_zero, List.set_cons_succ])
                | (refine mv_free _ (Or.inr ⟨by rfl, rfl⟩) (⟨p1, p2, p3, p4⟩) ?_
                   simp only [Act.put, List.setIfInBounds_toArray, List.set_cons_zero, List.set_cons_succ])
            iterate 1
              first
                | (refine mv_take ?_ (Or.inl ⟨by rfl, ?_⟩) (⟨p1, p2, p3, p4⟩) ?_
                   rotate_left 1
                   · intro u hu
                     (try dsimp only at hu)
                     go_simp
                     try with_reducible rfl
                   simp only [Act.put, List.setIfInBounds_toArray, List.set_cons_zero, List.set_cons_succ])
                | (refine mv_take _ (Or.inr ⟨by rfl, rfl⟩) (⟨p1, p2, p3, p4⟩) ?_
                   simp only [Act.put, List.setIfInBounds_toArray, List.set_cons_zero, List.set_cons_succ])
            iterate 3
              first
                | (refine mv_free ?_ (Or.inl ⟨by rfl, ?_⟩) (⟨p1, p2, p3, p4⟩) ?_
                   rotate_left 1
                   · intro u
                     go_simp
                     try simp only [d1]
                     try simp only [d2]
                     try simp only [d3]
                     try with_reducible rfl
                   simp only [Act.put, List.setIfInBounds_toArray, List.set_cons_zero, List.set_cons_succ])
                | (refine mv_free _ (Or.inr ⟨by rfl, rfl⟩) (⟨p1, p2, p3, p4⟩) ?_
                   simp only [Act.put, List.setIfInBounds_toArray, List.set_cons_zero, List.set_cons_succ])
            iterate 1
              first
                | (refine mv_take ?_ (Or.inl ⟨by rfl, ?_⟩) (⟨p1, p2, p3, p4⟩) ?_
                   rotate_left 1
                   · intro u hu
                     (try dsimp only at hu)
                     go_simp
                     try with_reducible rfl
                   simp only [Act.put, List.setIfInBounds_toArray, List.set_cons_zero, List.set_cons_succ])
                | (refine mv_take _ (Or.inr ⟨by rfl, rfl⟩) (⟨p1, p2, p3, p4⟩) ?_
                   simp only [Act.put, List.setIfInBounds_toArray, List.set_cons_zero, List.set_cons_succ])
            iterate 5
              first
                | (refine mv_free ?_ (Or.inl ⟨by rfl, ?_⟩) (⟨p1, p2, p3, p4⟩) ?_
                   rotate_left 1
                   · intro u
                     go_simp
                     try simp only [d1]
                     try simp only [d2]
                     try simp only [d3]
                     try with_reducible rfl
                   simp only [Act.put, List.setIfInBounds_toArray, List.set_cons_zero, List.set_cons_succ])
                | (refine mv_free _ (Or.inr ⟨by rfl, rfl⟩) (⟨p1, p2, p3, p4⟩) ?_
                   simp only [Act.put, List.setIfInBounds_toArray, List.set_cons_zero, List.set_cons_succ])
            iterate 1
              first
                | (refine mv_take ?_ (Or.inl ⟨by rfl, ?_⟩) (⟨p1, p2, p3, p4⟩) ?_
                   rotate_left 1
                   · intro u hu
                     (try dsimp only at hu)
                     go_simp
                     try with_reducible rfl
                   simp only [Act.put, List.setIfInBounds_toArray, List.set_cons_zero, List.set_cons_succ])
                | (refine mv_take _ (Or.inr ⟨by rfl, rfl⟩) (⟨p1, p2, p3, p4⟩) ?_
                   simp only [Act.put, List.setIfInBounds_toArray, List.set_cons_zero, List.set_cons_succ])
            refine mv_step (fun K hK => ?_)
            go_simp
            refine hK.out _ _ _ (fun u hu => hu) (⟨p1, p2, p3, p4⟩) ?_
            clear hK K
            iterate 3
              first
                | (refine mv_free ?_ (Or.inl ⟨by rfl, ?_⟩) (⟨p1, p2, p3, p4⟩) ?_
                   rotate_left 1
                   · intro u
                     go_simp
                     try simp only [d1]
                     try simp only [d2]
                     try simp only [d3]
                     try with_reducible rfl
                   simp only [Act.put, List.setIfInBounds_toArray, List.set_cons_zero, List.set_cons_succ])
                | (refine mv_free _ (Or.inr ⟨by rfl, rfl⟩) (⟨p1, p2, p3, p4⟩) ?_
                   simp only [Act.put, List.setIfInBounds_toArray, List.set_cons_zero, List.set_cons_succ])
            refine mv_done ?_
            go_wp2
            go_roundw
            case rel => exact ⟨k + 1, by omega, by first | rfl | go_num, Lib.hid (hq.out.drew.drew)⟩
            case measure => simp [intOf] <;> omega
          · have d1 : decide (-1000000000 < v) = true := decide_eq_true (by omega)
            have d2 : decide (v < 1000000000) = true := decide_eq_true (by omega)
            have nr := near.out rfl v0 v1
            have z1 : IntKind.i64.wrap (R - v) = R - v := IntWalk.i64_in _ ⟨by omega, by omega⟩
            have AB := fun u => abs01l (R - v) u (by omega)
            obtain ⟨m, hm⟩ : ∃ m, (if R - v < 0 then -(R - v) else R - v) = m := ⟨_, rfl⟩
            have mb : 0 ≤ m ∧ m ≤ 562949953421312 := by
              rw [← hm]
              split <;> omega
            rw [hm] at AB nr
            clear hm near
            have z2 : IntKind.i64.wrap (2 * m) = 2 * m := IntWalk.i64_in _ ⟨by omega, by omega⟩
            have d3 : decide (z < 2 * m) = false := decide_eq_false (by omega)
            replace AB := Lib.hid AB
            go_wp2_with fail
            refine region_moves (fun u => u.cell? ⟨g2, k, none⟩ = some (.bool false) ∧ u.cell? ⟨vb, vo + k, none⟩ = some (.int .i64 v) ∧ u.cell? ⟨g3, k, none⟩ = some (.int .i64 R) ∧ u.cell? ⟨b, off + k * 4 + 2, none⟩ = some (.int .i64 z)) [] [(.free, 0), (.free, 1), (.free, 2), (.take, 3), (.free, 4), (.free, 5), (.free, 6), (.free, 7), (.free, 8), (.take, 9), (.free, 10), (.free, 11), (.free, 12), (.free, 13), (.free, 14), (.free, 15), (.take, 16), (.free, 17), (.free, 18), (.free, 19), (.free, 20), (.free, 21), (.free, 22), (.take, 23), (.free, 24), (.free, 25), (.free, 26), (.take, 27), (.free, 28), (.free, 31), (.free, 32), (.free, 33), (.free, 34), (.take, 35), (.step, 29), (.free, 30), (.free, 36), (.free, 37)] _ (by kernel_rfl) (by kernel_rfl) (by kernel_rfl) (by kernel_rfl) (by decide) rfl (fun _ _ _ _ _ h => h) ?_
            simp only [List.filterMap_cons, List.filterMap_nil, List.getElem?_toArray, List.getElem?_cons_zero, List.getElem?_cons_succ, Option.map_some]
            iterate 3
              first
                | (refine mv_free ?_ (Or.inl ⟨by rfl, ?_⟩) (⟨p1, p2, p3, p4⟩) ?_
                   rotate_left 1
                   · intro u
                     go_simp
                     try simp only [d1]
                     try simp only [d2]
                     try simp only [d3]
                     try with_reducible rfl
                   simp only [Act.put, List.setIfInBounds_toArray, List.set_cons_zero, List.set_cons_succ])
                | (refine mv_free _ (Or.inr ⟨by rfl, rfl⟩) (⟨p1, p2, p3, p4⟩) ?_
                   simp only [Act.put, List.setIfInBounds_toArray, List.set_cons_zero, List.set_cons_succ])
            iterate 1
              first
                | (refine mv_take ?_ (Or.inl ⟨by rfl, ?_⟩) (⟨p1, p2, p3, p4⟩) ?_
                   rotate_left 1
                   · intro u hu
                     (try dsimp only at hu)
                     go_simp
                     try with_reducible rfl
                   simp only [Act.put, List.setIfInBounds_toArray, List.set_cons_zero, List.set_cons_succ])
                | (refine mv_take _ (Or.inr ⟨by rfl, rfl⟩) (⟨p1, p2, p3, p4⟩) ?_
                   simp only [Act.put, List.setIfInBounds_toArray, List.set_cons_zero, List.set_cons_succ])
            iterate 5
              first
                | (refine mv_free ?_ (Or.inl ⟨by rfl, ?_⟩) (⟨p1, p2, p3, p4⟩) ?_
                   rotate_left 1
                   · intro u
                     go_simp
                     try simp only [d1]
                     try simp only [d2]
                     try simp only [d3]
                     try with_reducible rfl
                   simp only [Act.put, List.setIfInBounds_toArray, List.set_cons_zero, List.set_cons_succ])
                | (refine mv_free _ (Or.inr ⟨by rfl, rfl⟩) (⟨p1, p2, p3, p4⟩) ?_
                   simp only [Act.put, List.setIfInBounds_toArray, List.set_cons_zero, List.set_cons_succ])
            iterate 1
              first
                | (refine mv_take ?_ (Or.inl ⟨by rfl, ?_⟩) (⟨p1, p2, p3, p4⟩) ?_
                   rotate_left 1
                   · intro u hu
                     (try dsimp only at hu)
                     go_simp
                     try with_reducible rfl
                   simp only [Act.put, List.setIfInBounds_toArray, List.set_cons_zero, List.set_cons_succ])
                | (refine mv_take _ (Or.inr ⟨by rfl, rfl⟩) (⟨p1, p2, p3, p4⟩) ?_
                   simp only [Act.put, List.setIfInBounds_toArray, List.set_cons_zero, List.set_cons_succ])
            iterate 6
              first
                | (refine mv_free ?_ (Or.inl ⟨by rfl, ?_⟩) (⟨p1, p2, p3, p4⟩) ?_
                   rotate_left 1
                   · intro u
                     go_simp
                     try simp only [d1]
                     try simp only [d2]
                     try simp only [d3]
                     try with_reducible rfl
                   simp only [Act.put, List.setIfInBounds_toArray, List.set_cons_zero, List.set_cons_succ])
                | (refine mv_free _ (Or.inr ⟨by rfl, rfl⟩) (⟨p1, p2, p3, p4⟩) ?_
                   simp only [Act.put, List.setIfInBounds_toArray, List.set_cons_zero, List.set_cons_succ])
            iterate 1
              first
                | (refine mv_take ?_ (Or.inl ⟨by rfl, ?_⟩) (⟨p1, p2, p3, p4⟩) ?_
                   rotate_left 1
                   · intro u hu
                     (try dsimp only at hu)
                     go_simp
                     try with_reducible rfl
                   simp only [Act.put, List.setIfInBounds_toArray, List.set_cons_zero, List.set_cons_succ])
                | (refine mv_take _ (Or.inr ⟨by rfl, rfl⟩) (⟨p1, p2, p3, p4⟩) ?_
                   simp only [Act.put, List.setIfInBounds_toArray, List.set_cons_zero, List.set_cons_succ])
            iterate 6
              first
                | (refine mv_free ?_ (Or.inl ⟨by rfl, ?_⟩) (⟨p1, p2, p3, p4⟩) ?_
                   rotate_left 1
                   · intro u
                     go_simp
                     try simp only [d1]
                     try simp only [d2]
                     try simp only [d3]
                     try with_reducible rfl
                   simp only [Act.put, List.setIfInBounds_toArray, List.set_cons_zero, List.set_cons_succ])
                | (refine mv_free _ (Or.inr ⟨by rfl, rfl⟩) (⟨p1, p2, p3, p4⟩) ?_
                   simp only [Act.put, List.setIfInBounds_toArray, List.set_cons_zero, List.set_cons_succ])
            iterate 1
              first
                | (refine mv_take ?_ (Or.inl ⟨by rfl, ?_⟩) (⟨p1, p2, p3, p4⟩) ?_
                   rotate_left 1
                   · intro u hu
                     (try dsimp only at hu)
                     go_simp
                     try with_reducible rfl
                   simp only [Act.put, List.setIfInBounds_toArray, List.set_cons_zero, List.set_cons_succ])
                | (refine mv_take _ (Or.inr ⟨by rfl, rfl⟩) (⟨p1, p2, p3, p4⟩) ?_
                   simp only [Act.put, List.setIfInBounds_toArray, List.set_cons_zero, List.set_cons_succ])
            iterate 3
              first
                | (refine mv_free ?_ (Or.inl ⟨by rfl, ?_⟩) (⟨p1, p2, p3, p4⟩) ?_
                   rotate_left 1
                   · intro u
                     go_simp
                     try simp only [d1]
                     try simp only [d2]
                     try simp only [d3]
                     try with_reducible rfl
                   simp only [Act.put, List.setIfInBounds_toArray, List.set_cons_zero, List.set_cons_succ])
                | (refine mv_free _ (Or.inr ⟨by rfl, rfl⟩) (⟨p1, p2, p3, p4⟩) ?_
                   simp only [Act.put, List.setIfInBounds_toArray, List.set_cons_zero, List.set_cons_succ])
            iterate 1
              first
                | (refine mv_take ?_ (Or.inl ⟨by rfl, ?_⟩) (⟨p1, p2, p3, p4⟩) ?_
                   rotate_left 1
                   · intro u hu
                     (try dsimp only at hu)
                     go_simp
                     try with_reducible rfl
                   simp only [Act.put, List.setIfInBounds_toArray, List.set_cons_zero, List.set_cons_succ])
                | (refine mv_take _ (Or.inr ⟨by rfl, rfl⟩) (⟨p1, p2, p3, p4⟩) ?_
                   simp only [Act.put, List.setIfInBounds_toArray, List.set_cons_zero, List.set_cons_succ])
            iterate 5
              first
                | (refine mv_free ?_ (Or.inl ⟨by rfl, ?_⟩) (⟨p1, p2, p3, p4⟩) ?_
                   rotate_left 1
                   · intro u
                     go_simp
                     try simp only [d1]
                     try simp only [d2]
                     try simp only [d3]
                     try with_reducible rfl
                   simp only [Act.put, List.setIfInBounds_toArray, List.set_cons_zero, List.set_cons_succ])
                | (refine mv_free _ (Or.inr ⟨by rfl, rfl⟩) (⟨p1, p2, p3, p4⟩) ?_
                   simp only [Act.put, List.setIfInBounds_toArray, List.set_cons_zero, List.set_cons_succ])
            iterate 1
              first
                | (refine mv_take ?_ (Or.inl ⟨by rfl, ?_⟩) (⟨p1, p2, p3, p4⟩) ?_
                   rotate_left 1
                   · intro u hu
                     (try dsimp only at hu)
                     go_simp
                     try with_reducible rfl
                   simp only [Act.put, List.setIfInBounds_toArray, List.set_cons_zero, List.set_cons_succ])
                | (refine mv_take _ (Or.inr ⟨by rfl, rfl⟩) (⟨p1, p2, p3, p4⟩) ?_
                   simp only [Act.put, List.setIfInBounds_toArray, List.set_cons_zero, List.set_cons_succ])
            refine mv_step (fun K hK => ?_)
            go_simp
            refine (AB.out _).mono ?_
            rintro e w' ⟨rfl, rfl⟩
            go_wp2_with fail
            refine hK.out _ _ _ (fun u hu => hu) (⟨p1, p2, p3, p4⟩) ?_
            clear hK K
            iterate 3
              first
                | (refine mv_free ?_ (Or.inl ⟨by rfl, ?_⟩) (⟨p1, p2, p3, p4⟩) ?_
                   rotate_left 1
                   · intro u
                     go_simp
                     try simp only [d1]
                     try simp only [d2]
                     try simp only [d3]
                     try with_reducible rfl
                   simp only [Act.put, List.setIfInBounds_toArray, List.set_cons_zero, List.set_cons_succ])
                | (refine mv_free _ (Or.inr ⟨by rfl, rfl⟩) (⟨p1, p2, p3, p4⟩) ?_
                   simp only [Act.put, List.setIfInBounds_toArray, List.set_cons_zero, List.set_cons_succ])
            refine mv_done ?_
            go_wp2
            go_roundw
            case rel => exact ⟨k + 1, by omega, by first | rfl | go_num, Lib.hid (hq.out.drew.drew)⟩
            case measure => simp [intOf] <;> omega
        · obtain rfl : k = n := by omega
          go_wp2_with (go_at_call 23; refine (lives30 _).mono ?_; rintro e w1 ⟨rfl, hb3⟩)
          go_ret
          exact ⟨rfl, hbu.out.trans (hb3.mono hbu.out.size)⟩
    · go_wp2_with (go_at_call 23; refine (lives30 _).mono ?_; rintro e w1 ⟨rfl, hb2⟩)
      go_ret
      exact ⟨rfl, hb1.trans (hb2.mono hb1.size)⟩
  · have WN := Lib.hid (lbwords_len a cap n NU BI SC SG av sa cv cs VL.length SL.length w HL hl hc hB (by omega))
    clear HL hv hs hB hlen
    unfold maxLen at hl
    go_enter Try.func6, Try.ntmps6
    go_wp2_with (go_at_call 24; refine (WN.out).mono ?_; rintro e w1 ⟨rfl, hb1⟩)
    go_wp2_with (go_at_call 23; refine (lives30 _).mono ?_; rintro e w1 ⟨rfl, hb2⟩)
    go_ret
    exact ⟨rfl, hb1.trans (hb2.mono hb1.size)⟩
end Go.Proofs.Ytffhhdjcodapjaa
