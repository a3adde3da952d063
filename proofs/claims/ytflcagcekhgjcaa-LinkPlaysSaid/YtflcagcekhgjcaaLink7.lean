/- The document's link: Step by its cases; walked. -/
import Derived.Test.YtflcagcekhgjcaaLink4
import Derived.Test.YtflcagcekhgjcaaGridb
import Derived.Deep.Cut
namespace Go.Proofs.Ytflcagcekhgjcaa
open Go.ChangeShapes Go.WideShapes Go.ChangeAt Go.RowKit
set_option linter.unusedVariables false
set_option linter.unusedSimpArgs false

/-- The document's link: its cells. -/
def rlC (id ag i s v t : Int) (kn : Bool) (ta re : Int) : List Value := [.int .i64 id, .int .i64 ag, .int .i64 i, .int .i64 s, .int .i64 v, .int .i64 t, .bool kn, .int .i64 ta, .int .i64 re]
theorem Held.rage {id i s v t ag ta re : Int} {kn : Bool} {m : Nat} {w : World} (h : Held m (rlC id ag i s v t kn ta re) w) (ha : 0 ≤ ag ∧ ag < 1000000) : ∃ u, u = w.setCell ⟨m, 1, none⟩ (.int .i64 (ag + 1)) ∧ Held m (rlC id (agN ag) i s v t kn ta re) u ∧ Only m w u := by
  rw [show agN ag = ag + 1 from by unfold agN; omega]
  exact ⟨_, rfl, h.set 1 _ (by simp [rlC]), (Only.refl m w).setCell (p := ⟨m, 1, none⟩) _⟩
theorem Held.rage2 {id i s v t ag ta re : Int} {kn : Bool} {m : Nat} {w : World} (h : Held m (rlC id ag i s v t kn ta re) w) (ha : 1000000 ≤ ag ∧ ag ≤ 1000000) : ∃ u, u = w ∧ Held m (rlC id (agN ag) i s v t kn ta re) u ∧ Only m w u := by
  rw [show agN ag = ag from by unfold agN; omega]
  exact ⟨_, rfl, h, Only.refl m w⟩
theorem Held.rlast {id i s v t ag ta re : Int} {kn : Bool} {m : Nat} {w : World} (h : Held m (rlC id ag i s v t kn ta re) w) (f0 f1 f2 f3 : Int) : ∃ u, u = ((((w.setCell ⟨m, 2, none⟩ (.int .i64 f0)).setCell ⟨m, 3, none⟩ (.int .i64 f1)).setCell ⟨m, 4, none⟩ (.int .i64 f2)).setCell ⟨m, 5, none⟩ (.int .i64 f3)).setCell ⟨m, 6, none⟩ (.bool true) ∧ Held m (rlC id ag f0 f1 f2 f3 true ta re) u ∧ Only m w u :=
  ⟨_, rfl, ((((h.set 2 _ (by simp [rlC])).set 3 _ (by simp [rlC])).set 4 _ (by simp [rlC])).set 5 _ (by simp [rlC])).set 6 _ (by simp [rlC]), ((((((Only.refl m w).setCell (p := ⟨m, 2, none⟩) _).setCell (p := ⟨m, 3, none⟩) _).setCell (p := ⟨m, 4, none⟩) _).setCell (p := ⟨m, 5, none⟩) _).setCell (p := ⟨m, 6, none⟩) _)⟩
theorem Held.rref {id i s v t ag ta re : Int} {kn : Bool} {m : Nat} {w : World} (h : Held m (rlC id ag i s v t kn ta re) w) : ∃ u, u = w.setCell ⟨m, 8, none⟩ (.int .i64 (re + 1)) ∧ Held m (rlC id ag i s v t kn ta (re + 1)) u ∧ Only m w u :=
  ⟨_, rfl, h.set 8 _ (by simp [rlC]), (Only.refl m w).setCell (p := ⟨m, 8, none⟩) _⟩
theorem Held.rtak {id i s v t ag ta re : Int} {kn : Bool} {m : Nat} {w : World} (h : Held m (rlC id ag i s v t kn ta re) w) : ∃ u, u = (w.setCell ⟨m, 7, none⟩ (.int .i64 (ta + 1))).setCell ⟨m, 1, none⟩ (.int .i64 0) ∧ Held m (rlC id 0 i s v t kn (ta + 1) re) u ∧ Only m w u :=
  ⟨_, rfl, (h.set 7 _ (by simp [rlC])).set 1 _ (by simp [rlC]), ((Only.refl m w).setCell (p := ⟨m, 7, none⟩) _).setCell (p := ⟨m, 1, none⟩) _⟩
set_option maxRecDepth 100000 in
set_option maxHeartbeats 8000000 in
theorem rlk_none {id i s v t ag ta re : Int} {kn : Bool} (m : Nat) (w : World) (h : Held m (rlC id ag i s v t kn ta re) w) (a : Option Addr) (cap : Nat) (ha : 0 ≤ ag ∧ ag ≤ 1000000) : Calls Try.prog 34 #[.pointer (some ⟨m, 0, none⟩), .slice a 0 cap] w fun e w' => e = .returned (.tuple #[.agg #[.int .i64 0, .int .i64 0, .int .i64 0, .int .i64 0], .int .i64 10]) ∧ Held m (rlC id (agN ag) i s v t kn ta re) w' ∧ Beside m w w' := by
  obtain ⟨V0, eV0, hb0, hN0, hz0⟩ := f4_alloc w 0 0 0 0
  have hlt := h.lt
  have hH0 := h.bel hb0
  have n1 : IntKind.i64.wrap (ag + 1) = ag + 1 := by rw [IntKind.wrap_i64]; omega
  rcases (show ag < 1000000 ∨ 1000000 ≤ ag by omega) with hag | hag
  · obtain ⟨U1, eU1, hH1, hO1⟩ := hH0.rage (show 0 ≤ ag ∧ ag < 1000000 from ⟨ha.1, hag⟩)
    have hN1 := Lib.hid (hN0.only hO1 (by omega))
    have bs1 := Lib.hid ((Beside.of_below (b := m) hb0).trans (.of_only hO1))
    replace hlt := Lib.hid hlt
    replace eV0 := Lib.hid eV0
    replace eU1 := Lib.hid eU1
    have c1 := hH0.c 1 _ rfl
    have g1 := hH0.f 1 (by simp [rlC])
    replace hH1 := Lib.hid hH1
    clear hN0 hz0 h hb0 hO1 hH0 ha
    go_enter Try.func34, Try.ntmps34
    go_upto_region 1 with (fail)
    rw [← eV0.out]
    go_upto_region 3 with (fail)
    rw [← eU1.out]
    clear c1 g1
    obtain ⟨u9, e9, hF8, hb9⟩ := (hN1.out).laid 0 0 0 0
    have z0 := hF8.c0
    have z1 := hF8.c1
    have z2 := hF8.c2
    have z3 := hF8.c3
    rw [e9] at z0 z1 z2 z3
    have hR := Lib.hid (hH1.out.below hb9 hlt.out)
    have hBs := Lib.hid (bs1.out.last hb9)
    rw [e9] at hR hBs
    clear e9 hF8 hb9
    obtain ⟨q0, q1, q2, q3, p0, p1, p2, p3, -⟩ := hN1.out
    go_wp2
    refine bodyPost_ret (v := .tuple #[.agg #[.int .i64 0, .int .i64 0, .int .i64 0, .int .i64 0], .int .i64 10]) (by simp [results, Try.results34, go_sem, z0, z1, z2, z3]) rfl ?_
    exact ⟨rfl, hR.out, hBs.out⟩
  · obtain ⟨U1, eU1, hH1, hO1⟩ := hH0.rage2 (show 1000000 ≤ ag ∧ ag ≤ 1000000 from ⟨hag, ha.2⟩)
    have hN1 := Lib.hid (hN0.only hO1 (by omega))
    have bs1 := Lib.hid ((Beside.of_below (b := m) hb0).trans (.of_only hO1))
    replace hlt := Lib.hid hlt
    replace eV0 := Lib.hid eV0
    replace eU1 := Lib.hid eU1
    have c1 := hH0.c 1 _ rfl
    have g1 := hH0.f 1 (by simp [rlC])
    replace hH1 := Lib.hid hH1
    clear hN0 hz0 h hb0 hO1 hH0 ha
    go_enter Try.func34, Try.ntmps34
    go_upto_region 1 with (fail)
    rw [← eV0.out]
    go_upto_region 3 with (fail)
    rw [← eU1.out]
    clear c1 g1
    obtain ⟨u9, e9, hF8, hb9⟩ := (hN1.out).laid 0 0 0 0
    have z0 := hF8.c0
    have z1 := hF8.c1
    have z2 := hF8.c2
    have z3 := hF8.c3
    rw [e9] at z0 z1 z2 z3
    have hR := Lib.hid (hH1.out.below hb9 hlt.out)
    have hBs := Lib.hid (bs1.out.last hb9)
    rw [e9] at hR hBs
    clear e9 hF8 hb9
    obtain ⟨q0, q1, q2, q3, p0, p1, p2, p3, -⟩ := hN1.out
    go_wp2
    refine bodyPost_ret (v := .tuple #[.agg #[.int .i64 0, .int .i64 0, .int .i64 0, .int .i64 0], .int .i64 10]) (by simp [results, Try.results34, go_sem, z0, z1, z2, z3]) rfl ?_
    exact ⟨rfl, hR.out, hBs.out⟩
set_option maxRecDepth 100000 in
set_option maxHeartbeats 8000000 in
theorem rlk_bad {id i s v t ag ta re : Int} {kn : Bool} (m : Nat) (l : List Int) (w : World) (h : Held m (rlC id ag i s v t kn ta re) w) (a : Option Addr) (cap : Nat) (hr : RowIs .u8 w a l) (hne : ∀ x, a = some x → x.block ≠ m) (hL : l.length ≤ maxLen) (hB : BYT l) (ha : 0 ≤ ag ∧ ag ≤ 1000000) (hta : 0 ≤ ta ∧ ta ≤ 1000000) (hre : 0 ≤ re ∧ re ≤ 1000000) (h0 : 0 < l.length) (hE : tkE l ≠ 0) : Calls Try.prog 34 #[.pointer (some ⟨m, 0, none⟩), .slice a l.length cap] w fun e w' => e = .returned (.tuple #[.agg #[.int .i64 0, .int .i64 0, .int .i64 0, .int .i64 0], .int .i64 (tkE l)]) ∧ Held m (rlC id (agN ag) i s v t kn ta (re + 1)) w' ∧ Beside m w w' := by
  have hpos : 0 < l.length := h0
  have dl : ((l.length : Int) == 0) = false := by simp; intro e; simp [e] at hpos
  have FT := Lib.hid (fun u (k : RowIs .u8 u a l) => rtake a cap l u k hL hB)
  obtain ⟨e1, e2, e3, e4⟩ := tk_no hE
  rw [e1, e2, e3, e4] at FT
  generalize tkE l = ee at *
  have d6 : (ee != 0) = true := by simp [hE]
  have d7 : (ee == 0) = false := by simp [hE]
  clear e1 e2 e3 e4 hL hB
  obtain ⟨V0, eV0, hb0, hN0, hz0⟩ := f4_alloc w 0 0 0 0
  have hlt := h.lt
  have hH0 := h.bel hb0
  have n1 : IntKind.i64.wrap (ag + 1) = ag + 1 := by rw [IntKind.wrap_i64]; omega
  rcases (show ag < 1000000 ∨ 1000000 ≤ ag by omega) with hag | hag
  · obtain ⟨U1, eU1, hH1, hO1⟩ := hH0.rage (show 0 ≤ ag ∧ ag < 1000000 from ⟨ha.1, hag⟩)
    have hr1 := Lib.hid ((hr.below hb0).only hO1 hne)
    have hN1 := Lib.hid (hN0.only hO1 (by omega))
    have bs1 := Lib.hid ((Beside.of_below (b := m) hb0).trans (.of_only hO1))
    replace hlt := Lib.hid hlt
    clear hr hne hpos
    replace eV0 := Lib.hid eV0
    replace eU1 := Lib.hid eU1
    have c1 := hH0.c 1 _ rfl
    have g1 := hH0.f 1 (by simp [rlC])
    replace hH1 := Lib.hid hH1
    clear hN0 hz0 h hb0 hO1 hH0 ha
    go_enter Try.func34, Try.ntmps34
    go_upto_region 1 with (fail)
    rw [← eV0.out]
    go_upto_region 3 with (fail)
    rw [← eU1.out]
    clear c1 g1
    go_wp2_with fail
    refine (FT.out _ hr1.out).mono ?_
    rintro e w2 ⟨rfl, hb2⟩
    have hN2 := hN1.out.keep hb2
    have hH2 := hH1.out.bel hb2
    have bs2 := bs1.out.trans (.of_below hb2)
    have hlt2 := hH2.lt
    clear hr1 hN1 hH1 bs1 eU1
    go_upto_region 6 with (fail)
    obtain ⟨V2, eV2, hm2, hF2, hz2⟩ := f4_alloc w2 0 0 0 0
    rw [← eV2]
    replace eV2 := Lib.hid eV2
    have hN3 := Lib.hid (hN2.keep hm2)
    have hH3 := Lib.hid (hH2.bel hm2)
    have bs3 := Lib.hid (bs2.trans (.of_below hm2))
    obtain ⟨s2, es2⟩ : ∃ x, x = w2.heap.size := ⟨_, rfl⟩
    rw [← es2] at hF2 ⊢
    have hs2 := Lib.hid (show m < s2 from by omega)
    replace es2 := Lib.hid es2
    have hF3 := Lib.hid hF2
    clear hN2 hH2 bs2 hm2 hz2 hF2 hb2 hlt2
    refine region_still [] [(.free, 0), (.free, 1), (.free, 2), (.free, 3), (.take, 4), (.free, 5), (.free, 6), (.free, 7), (.take, 8), (.free, 9), (.free, 10)] _ (by kernel_rfl) (by kernel_rfl) (by kernel_rfl) (by kernel_rfl) (by decide) rfl (fun _ _ _ _ _ h => h) ?_
    simp only [List.filterMap_cons, List.filterMap_nil, List.getElem?_toArray, List.getElem?_cons_zero, List.getElem?_cons_succ, Option.map_some]
    iterate 4
      first
        | (refine mv_free ?_ (Or.inl ⟨by rfl, ?_⟩) (rfl) ?_
           rotate_left 1
           · intro u
             go_simp
             try simp only [d1]
             try simp only [d2]
             try simp only [d3]
             try simp only [d5]
             try with_reducible rfl
           simp only [Act.put, List.setIfInBounds_toArray, List.set_cons_zero, List.set_cons_succ])
        | (refine mv_free _ (Or.inr ⟨by rfl, rfl⟩) (rfl) ?_
           simp only [Act.put, List.setIfInBounds_toArray, List.set_cons_zero, List.set_cons_succ])
    iterate 1
      first
        | (refine mv_take ?_ (Or.inl ⟨by rfl, ?_⟩) (rfl) ?_
           rotate_left 1
           · intro u hu
             (try dsimp only at hu)
             go_simp
             try with_reducible rfl
           simp only [Act.put, List.setIfInBounds_toArray, List.set_cons_zero, List.set_cons_succ])
        | (refine mv_take _ (Or.inr ⟨by rfl, rfl⟩) (rfl) ?_
           simp only [Act.put, List.setIfInBounds_toArray, List.set_cons_zero, List.set_cons_succ])
    iterate 3
      first
        | (refine mv_free ?_ (Or.inl ⟨by rfl, ?_⟩) (rfl) ?_
           rotate_left 1
           · intro u
             go_simp
             try simp only [d1]
             try simp only [d2]
             try simp only [d3]
             try simp only [d5]
             try with_reducible rfl
           simp only [Act.put, List.setIfInBounds_toArray, List.set_cons_zero, List.set_cons_succ])
        | (refine mv_free _ (Or.inr ⟨by rfl, rfl⟩) (rfl) ?_
           simp only [Act.put, List.setIfInBounds_toArray, List.set_cons_zero, List.set_cons_succ])
    iterate 1
      first
        | (refine mv_take ?_ (Or.inl ⟨by rfl, ?_⟩) (rfl) ?_
           rotate_left 1
           · intro u hu
             (try dsimp only at hu)
             go_simp
             try with_reducible rfl
           simp only [Act.put, List.setIfInBounds_toArray, List.set_cons_zero, List.set_cons_succ])
        | (refine mv_take _ (Or.inr ⟨by rfl, rfl⟩) (rfl) ?_
           simp only [Act.put, List.setIfInBounds_toArray, List.set_cons_zero, List.set_cons_succ])
    iterate 2
      first
        | (refine mv_free ?_ (Or.inl ⟨by rfl, ?_⟩) (rfl) ?_
           rotate_left 1
           · intro u
             go_simp
             try simp only [d1]
             try simp only [d2]
             try simp only [d3]
             try simp only [d5]
             try with_reducible rfl
           simp only [Act.put, List.setIfInBounds_toArray, List.set_cons_zero, List.set_cons_succ])
        | (refine mv_free _ (Or.inr ⟨by rfl, rfl⟩) (rfl) ?_
           simp only [Act.put, List.setIfInBounds_toArray, List.set_cons_zero, List.set_cons_succ])
    refine mv_done ?_
    replace hN3 := Lib.hid hN3.out.drew
    replace hF3 := Lib.hid hF3.out.drew
    replace hH3 := Lib.hid hH3.out.drew
    replace bs3 := Lib.hid bs3.out.drew
    generalize V2.drew = V3 at *
    clear eV2
    have r1 : IntKind.i64.wrap (re + 1) = re + 1 := by rw [IntKind.wrap_i64]; omega
    obtain ⟨U, eU, hH5, hO5⟩ := hH3.out.rref
    have hN5 := Lib.hid (hN3.out.only hO5 (by have := hlt.out; omega))
    have bs5 := Lib.hid (bs3.out.trans (.of_only hO5))
    have c8 := hH3.out.c 8 _ rfl
    have g8 := hH3.out.f 8 (by simp [rlC])
    replace hH5 := Lib.hid hH5
    replace eU := Lib.hid eU
    clear hN3 hH3 bs3 hO5 hF3
    go_upto_region 15 with (fail)
    rw [← eU.out]
    clear c8 g8
    obtain ⟨u9, e9, hF8, hb9⟩ := (hN5.out).laid 0 0 0 0
    have z0 := hF8.c0
    have z1 := hF8.c1
    have z2 := hF8.c2
    have z3 := hF8.c3
    rw [e9] at z0 z1 z2 z3
    have hR := Lib.hid (hH5.out.below hb9 hlt.out)
    have hBs := Lib.hid (bs5.out.last hb9)
    rw [e9] at hR hBs
    clear e9 hF8 hb9
    obtain ⟨q0, q1, q2, q3, p0, p1, p2, p3, -⟩ := hN5.out
    go_wp2
    refine bodyPost_ret (v := .tuple #[.agg #[.int .i64 0, .int .i64 0, .int .i64 0, .int .i64 0], .int .i64 ee]) (by simp [results, Try.results34, go_sem, z0, z1, z2, z3]) rfl ?_
    exact ⟨rfl, hR.out, hBs.out⟩
  · obtain ⟨U1, eU1, hH1, hO1⟩ := hH0.rage2 (show 1000000 ≤ ag ∧ ag ≤ 1000000 from ⟨hag, ha.2⟩)
    have hr1 := Lib.hid ((hr.below hb0).only hO1 hne)
    have hN1 := Lib.hid (hN0.only hO1 (by omega))
    have bs1 := Lib.hid ((Beside.of_below (b := m) hb0).trans (.of_only hO1))
    replace hlt := Lib.hid hlt
    clear hr hne hpos
    replace eV0 := Lib.hid eV0
    replace eU1 := Lib.hid eU1
    have c1 := hH0.c 1 _ rfl
    have g1 := hH0.f 1 (by simp [rlC])
    replace hH1 := Lib.hid hH1
    clear hN0 hz0 h hb0 hO1 hH0 ha
    go_enter Try.func34, Try.ntmps34
    go_upto_region 1 with (fail)
    rw [← eV0.out]
    go_upto_region 3 with (fail)
    rw [← eU1.out]
    clear c1 g1
    go_wp2_with fail
    refine (FT.out _ hr1.out).mono ?_
    rintro e w2 ⟨rfl, hb2⟩
    have hN2 := hN1.out.keep hb2
    have hH2 := hH1.out.bel hb2
    have bs2 := bs1.out.trans (.of_below hb2)
    have hlt2 := hH2.lt
    clear hr1 hN1 hH1 bs1 eU1
    go_upto_region 6 with (fail)
    obtain ⟨V2, eV2, hm2, hF2, hz2⟩ := f4_alloc w2 0 0 0 0
    rw [← eV2]
    replace eV2 := Lib.hid eV2
    have hN3 := Lib.hid (hN2.keep hm2)
    have hH3 := Lib.hid (hH2.bel hm2)
    have bs3 := Lib.hid (bs2.trans (.of_below hm2))
    obtain ⟨s2, es2⟩ : ∃ x, x = w2.heap.size := ⟨_, rfl⟩
    rw [← es2] at hF2 ⊢
    have hs2 := Lib.hid (show m < s2 from by omega)
    replace es2 := Lib.hid es2
    have hF3 := Lib.hid hF2
    clear hN2 hH2 bs2 hm2 hz2 hF2 hb2 hlt2
    refine region_still [] [(.free, 0), (.free, 1), (.free, 2), (.free, 3), (.take, 4), (.free, 5), (.free, 6), (.free, 7), (.take, 8), (.free, 9), (.free, 10)] _ (by kernel_rfl) (by kernel_rfl) (by kernel_rfl) (by kernel_rfl) (by decide) rfl (fun _ _ _ _ _ h => h) ?_
    simp only [List.filterMap_cons, List.filterMap_nil, List.getElem?_toArray, List.getElem?_cons_zero, List.getElem?_cons_succ, Option.map_some]
    iterate 4
      first
        | (refine mv_free ?_ (Or.inl ⟨by rfl, ?_⟩) (rfl) ?_
           rotate_left 1
           · intro u
             go_simp
             try simp only [d1]
             try simp only [d2]
             try simp only [d3]
             try simp only [d5]
             try with_reducible rfl
           simp only [Act.put, List.setIfInBounds_toArray, List.set_cons_zero, List.set_cons_succ])
        | (refine mv_free _ (Or.inr ⟨by rfl, rfl⟩) (rfl) ?_
           simp only [Act.put, List.setIfInBounds_toArray, List.set_cons_zero, List.set_cons_succ])
    iterate 1
      first
        | (refine mv_take ?_ (Or.inl ⟨by rfl, ?_⟩) (rfl) ?_
           rotate_left 1
           · intro u hu
             (try dsimp only at hu)
             go_simp
             try with_reducible rfl
           simp only [Act.put, List.setIfInBounds_toArray, List.set_cons_zero, List.set_cons_succ])
        | (refine mv_take _ (Or.inr ⟨by rfl, rfl⟩) (rfl) ?_
           simp only [Act.put, List.setIfInBounds_toArray, List.set_cons_zero, List.set_cons_succ])
    iterate 3
      first
        | (refine mv_free ?_ (Or.inl ⟨by rfl, ?_⟩) (rfl) ?_
           rotate_left 1
           · intro u
             go_simp
             try simp only [d1]
             try simp only [d2]
             try simp only [d3]
             try simp only [d5]
             try with_reducible rfl
           simp only [Act.put, List.setIfInBounds_toArray, List.set_cons_zero, List.set_cons_succ])
        | (refine mv_free _ (Or.inr ⟨by rfl, rfl⟩) (rfl) ?_
           simp only [Act.put, List.setIfInBounds_toArray, List.set_cons_zero, List.set_cons_succ])
    iterate 1
      first
        | (refine mv_take ?_ (Or.inl ⟨by rfl, ?_⟩) (rfl) ?_
           rotate_left 1
           · intro u hu
             (try dsimp only at hu)
             go_simp
             try with_reducible rfl
           simp only [Act.put, List.setIfInBounds_toArray, List.set_cons_zero, List.set_cons_succ])
        | (refine mv_take _ (Or.inr ⟨by rfl, rfl⟩) (rfl) ?_
           simp only [Act.put, List.setIfInBounds_toArray, List.set_cons_zero, List.set_cons_succ])
    iterate 2
      first
        | (refine mv_free ?_ (Or.inl ⟨by rfl, ?_⟩) (rfl) ?_
           rotate_left 1
           · intro u
             go_simp
             try simp only [d1]
             try simp only [d2]
             try simp only [d3]
             try simp only [d5]
             try with_reducible rfl
           simp only [Act.put, List.setIfInBounds_toArray, List.set_cons_zero, List.set_cons_succ])
        | (refine mv_free _ (Or.inr ⟨by rfl, rfl⟩) (rfl) ?_
           simp only [Act.put, List.setIfInBounds_toArray, List.set_cons_zero, List.set_cons_succ])
    refine mv_done ?_
    replace hN3 := Lib.hid hN3.out.drew
    replace hF3 := Lib.hid hF3.out.drew
    replace hH3 := Lib.hid hH3.out.drew
    replace bs3 := Lib.hid bs3.out.drew
    generalize V2.drew = V3 at *
    clear eV2
    have r1 : IntKind.i64.wrap (re + 1) = re + 1 := by rw [IntKind.wrap_i64]; omega
    obtain ⟨U, eU, hH5, hO5⟩ := hH3.out.rref
    have hN5 := Lib.hid (hN3.out.only hO5 (by have := hlt.out; omega))
    have bs5 := Lib.hid (bs3.out.trans (.of_only hO5))
    have c8 := hH3.out.c 8 _ rfl
    have g8 := hH3.out.f 8 (by simp [rlC])
    replace hH5 := Lib.hid hH5
    replace eU := Lib.hid eU
    clear hN3 hH3 bs3 hO5 hF3
    go_upto_region 15 with (fail)
    rw [← eU.out]
    clear c8 g8
    obtain ⟨u9, e9, hF8, hb9⟩ := (hN5.out).laid 0 0 0 0
    have z0 := hF8.c0
    have z1 := hF8.c1
    have z2 := hF8.c2
    have z3 := hF8.c3
    rw [e9] at z0 z1 z2 z3
    have hR := Lib.hid (hH5.out.below hb9 hlt.out)
    have hBs := Lib.hid (bs5.out.last hb9)
    rw [e9] at hR hBs
    clear e9 hF8 hb9
    obtain ⟨q0, q1, q2, q3, p0, p1, p2, p3, -⟩ := hN5.out
    go_wp2
    refine bodyPost_ret (v := .tuple #[.agg #[.int .i64 0, .int .i64 0, .int .i64 0, .int .i64 0], .int .i64 ee]) (by simp [results, Try.results34, go_sem, z0, z1, z2, z3]) rfl ?_
    exact ⟨rfl, hR.out, hBs.out⟩
set_option maxRecDepth 100000 in
set_option maxHeartbeats 8000000 in
theorem rlk_id {id i s v t ag ta re : Int} {kn : Bool} (m : Nat) (l : List Int) (w : World) (h : Held m (rlC id ag i s v t kn ta re) w) (a : Option Addr) (cap : Nat) (hr : RowIs .u8 w a l) (hne : ∀ x, a = some x → x.block ≠ m) (hL : l.length ≤ maxLen) (hB : BYT l) (ha : 0 ≤ ag ∧ ag ≤ 1000000) (hta : 0 ≤ ta ∧ ta ≤ 1000000) (hre : 0 ≤ re ∧ re ≤ 1000000) (hE : tkE l = 0) (hI : tkI l ≠ id) : Calls Try.prog 34 #[.pointer (some ⟨m, 0, none⟩), .slice a l.length cap] w fun e w' => e = .returned (.tuple #[.agg #[.int .i64 0, .int .i64 0, .int .i64 0, .int .i64 0], .int .i64 10]) ∧ Held m (rlC id (agN ag) i s v t kn ta (re + 1)) w' ∧ Beside m w w' := by
  have hpos : 0 < l.length := by have := (tkE_ok hE).1; omega
  have dl : ((l.length : Int) == 0) = false := by simp; intro e; simp [e] at hpos
  have FT := Lib.hid (fun u (k : RowIs .u8 u a l) => rtake a cap l u k hL hB)
  rw [hE] at FT
  generalize tkI l = f0 at *
  generalize tkS l = f1 at *
  generalize tkV l = f2 at *
  generalize tkT l = f3 at *
  have d6 : (f0 != id) = true := by simp [hI]
  clear hL hB
  obtain ⟨V0, eV0, hb0, hN0, hz0⟩ := f4_alloc w 0 0 0 0
  have hlt := h.lt
  have hH0 := h.bel hb0
  have n1 : IntKind.i64.wrap (ag + 1) = ag + 1 := by rw [IntKind.wrap_i64]; omega
  rcases (show ag < 1000000 ∨ 1000000 ≤ ag by omega) with hag | hag
  · obtain ⟨U1, eU1, hH1, hO1⟩ := hH0.rage (show 0 ≤ ag ∧ ag < 1000000 from ⟨ha.1, hag⟩)
    have hr1 := Lib.hid ((hr.below hb0).only hO1 hne)
    have hN1 := Lib.hid (hN0.only hO1 (by omega))
    have bs1 := Lib.hid ((Beside.of_below (b := m) hb0).trans (.of_only hO1))
    replace hlt := Lib.hid hlt
    clear hr hne hpos
    replace eV0 := Lib.hid eV0
    replace eU1 := Lib.hid eU1
    have c1 := hH0.c 1 _ rfl
    have g1 := hH0.f 1 (by simp [rlC])
    replace hH1 := Lib.hid hH1
    clear hN0 hz0 h hb0 hO1 hH0 ha
    go_enter Try.func34, Try.ntmps34
    go_upto_region 1 with (fail)
    rw [← eV0.out]
    go_upto_region 3 with (fail)
    rw [← eU1.out]
    clear c1 g1
    go_wp2_with fail
    refine (FT.out _ hr1.out).mono ?_
    rintro e w2 ⟨rfl, hb2⟩
    have hN2 := hN1.out.keep hb2
    have hH2 := hH1.out.bel hb2
    have bs2 := bs1.out.trans (.of_below hb2)
    have hlt2 := hH2.lt
    clear hr1 hN1 hH1 bs1 eU1
    go_upto_region 6 with (fail)
    obtain ⟨V2, eV2, hm2, hF2, hz2⟩ := f4_alloc w2 f0 f1 f2 f3
    rw [← eV2]
    replace eV2 := Lib.hid eV2
    have hN3 := Lib.hid (hN2.keep hm2)
    have hH3 := Lib.hid (hH2.bel hm2)
    have bs3 := Lib.hid (bs2.trans (.of_below hm2))
    obtain ⟨s2, es2⟩ : ∃ x, x = w2.heap.size := ⟨_, rfl⟩
    rw [← es2] at hF2 ⊢
    have hs2 := Lib.hid (show m < s2 from by omega)
    replace es2 := Lib.hid es2
    have hF3 := Lib.hid hF2
    clear hN2 hH2 bs2 hm2 hz2 hF2 hb2 hlt2
    have j0 := hF3.out.c0
    have c0 := hH3.out.c 0 _ rfl
    refine region_moves (fun u => u.cell? ⟨s2, 0, none⟩ = some (.int .i64 f0) ∧ u.cell? ⟨m, 0, none⟩ = some (.int .i64 id)) [] [(.free, 0), (.free, 1), (.free, 2), (.free, 3), (.take, 4), (.free, 5), (.free, 6), (.free, 7), (.take, 8), (.free, 9), (.free, 10)] _ (by kernel_rfl) (by kernel_rfl) (by kernel_rfl) (by kernel_rfl) (by decide) rfl (fun _ _ _ _ _ h => h) ?_
    simp only [List.filterMap_cons, List.filterMap_nil, List.getElem?_toArray, List.getElem?_cons_zero, List.getElem?_cons_succ, Option.map_some]
    iterate 4
      first
        | (refine mv_free ?_ (Or.inl ⟨by rfl, ?_⟩) (⟨j0, c0⟩) ?_
           rotate_left 1
           · intro u
             go_simp
             try simp only [d1]
             try simp only [d2]
             try simp only [d3]
             try simp only [d5]
             try with_reducible rfl
           simp only [Act.put, List.setIfInBounds_toArray, List.set_cons_zero, List.set_cons_succ])
        | (refine mv_free _ (Or.inr ⟨by rfl, rfl⟩) (⟨j0, c0⟩) ?_
           simp only [Act.put, List.setIfInBounds_toArray, List.set_cons_zero, List.set_cons_succ])
    iterate 1
      first
        | (refine mv_take ?_ (Or.inl ⟨by rfl, ?_⟩) (⟨j0, c0⟩) ?_
           rotate_left 1
           · intro u hu
             (try dsimp only at hu)
             go_simp
             try with_reducible rfl
           simp only [Act.put, List.setIfInBounds_toArray, List.set_cons_zero, List.set_cons_succ])
        | (refine mv_take _ (Or.inr ⟨by rfl, rfl⟩) (⟨j0, c0⟩) ?_
           simp only [Act.put, List.setIfInBounds_toArray, List.set_cons_zero, List.set_cons_succ])
    iterate 3
      first
        | (refine mv_free ?_ (Or.inl ⟨by rfl, ?_⟩) (⟨j0, c0⟩) ?_
           rotate_left 1
           · intro u
             go_simp
             try simp only [d1]
             try simp only [d2]
             try simp only [d3]
             try simp only [d5]
             try with_reducible rfl
           simp only [Act.put, List.setIfInBounds_toArray, List.set_cons_zero, List.set_cons_succ])
        | (refine mv_free _ (Or.inr ⟨by rfl, rfl⟩) (⟨j0, c0⟩) ?_
           simp only [Act.put, List.setIfInBounds_toArray, List.set_cons_zero, List.set_cons_succ])
    iterate 1
      first
        | (refine mv_take ?_ (Or.inl ⟨by rfl, ?_⟩) (⟨j0, c0⟩) ?_
           rotate_left 1
           · intro u hu
             (try dsimp only at hu)
             go_simp
             try with_reducible rfl
           simp only [Act.put, List.setIfInBounds_toArray, List.set_cons_zero, List.set_cons_succ])
        | (refine mv_take _ (Or.inr ⟨by rfl, rfl⟩) (⟨j0, c0⟩) ?_
           simp only [Act.put, List.setIfInBounds_toArray, List.set_cons_zero, List.set_cons_succ])
    iterate 2
      first
        | (refine mv_free ?_ (Or.inl ⟨by rfl, ?_⟩) (⟨j0, c0⟩) ?_
           rotate_left 1
           · intro u
             go_simp
             try simp only [d1]
             try simp only [d2]
             try simp only [d3]
             try simp only [d5]
             try with_reducible rfl
           simp only [Act.put, List.setIfInBounds_toArray, List.set_cons_zero, List.set_cons_succ])
        | (refine mv_free _ (Or.inr ⟨by rfl, rfl⟩) (⟨j0, c0⟩) ?_
           simp only [Act.put, List.setIfInBounds_toArray, List.set_cons_zero, List.set_cons_succ])
    refine mv_done ?_
    clear j0 c0
    replace hN3 := Lib.hid hN3.out.drew
    replace hF3 := Lib.hid hF3.out.drew
    replace hH3 := Lib.hid hH3.out.drew
    replace bs3 := Lib.hid bs3.out.drew
    generalize V2.drew = V3 at *
    clear eV2
    have r1 : IntKind.i64.wrap (re + 1) = re + 1 := by rw [IntKind.wrap_i64]; omega
    obtain ⟨U, eU, hH5, hO5⟩ := hH3.out.rref
    have hN5 := Lib.hid (hN3.out.only hO5 (by have := hlt.out; omega))
    have bs5 := Lib.hid (bs3.out.trans (.of_only hO5))
    have c8 := hH3.out.c 8 _ rfl
    have g8 := hH3.out.f 8 (by simp [rlC])
    replace hH5 := Lib.hid hH5
    replace eU := Lib.hid eU
    clear hN3 hH3 bs3 hO5 hF3
    go_upto_region 15 with (fail)
    rw [← eU.out]
    clear c8 g8
    obtain ⟨u9, e9, hF8, hb9⟩ := (hN5.out).laid 0 0 0 0
    have z0 := hF8.c0
    have z1 := hF8.c1
    have z2 := hF8.c2
    have z3 := hF8.c3
    rw [e9] at z0 z1 z2 z3
    have hR := Lib.hid (hH5.out.below hb9 hlt.out)
    have hBs := Lib.hid (bs5.out.last hb9)
    rw [e9] at hR hBs
    clear e9 hF8 hb9
    obtain ⟨q0, q1, q2, q3, p0, p1, p2, p3, -⟩ := hN5.out
    go_wp2
    refine bodyPost_ret (v := .tuple #[.agg #[.int .i64 0, .int .i64 0, .int .i64 0, .int .i64 0], .int .i64 10]) (by simp [results, Try.results34, go_sem, z0, z1, z2, z3]) rfl ?_
    exact ⟨rfl, hR.out, hBs.out⟩
  · obtain ⟨U1, eU1, hH1, hO1⟩ := hH0.rage2 (show 1000000 ≤ ag ∧ ag ≤ 1000000 from ⟨hag, ha.2⟩)
    have hr1 := Lib.hid ((hr.below hb0).only hO1 hne)
    have hN1 := Lib.hid (hN0.only hO1 (by omega))
    have bs1 := Lib.hid ((Beside.of_below (b := m) hb0).trans (.of_only hO1))
    replace hlt := Lib.hid hlt
    clear hr hne hpos
    replace eV0 := Lib.hid eV0
    replace eU1 := Lib.hid eU1
    have c1 := hH0.c 1 _ rfl
    have g1 := hH0.f 1 (by simp [rlC])
    replace hH1 := Lib.hid hH1
    clear hN0 hz0 h hb0 hO1 hH0 ha
    go_enter Try.func34, Try.ntmps34
    go_upto_region 1 with (fail)
    rw [← eV0.out]
    go_upto_region 3 with (fail)
    rw [← eU1.out]
    clear c1 g1
    go_wp2_with fail
    refine (FT.out _ hr1.out).mono ?_
    rintro e w2 ⟨rfl, hb2⟩
    have hN2 := hN1.out.keep hb2
    have hH2 := hH1.out.bel hb2
    have bs2 := bs1.out.trans (.of_below hb2)
    have hlt2 := hH2.lt
    clear hr1 hN1 hH1 bs1 eU1
    go_upto_region 6 with (fail)
    obtain ⟨V2, eV2, hm2, hF2, hz2⟩ := f4_alloc w2 f0 f1 f2 f3
    rw [← eV2]
    replace eV2 := Lib.hid eV2
    have hN3 := Lib.hid (hN2.keep hm2)
    have hH3 := Lib.hid (hH2.bel hm2)
    have bs3 := Lib.hid (bs2.trans (.of_below hm2))
    obtain ⟨s2, es2⟩ : ∃ x, x = w2.heap.size := ⟨_, rfl⟩
    rw [← es2] at hF2 ⊢
    have hs2 := Lib.hid (show m < s2 from by omega)
    replace es2 := Lib.hid es2
    have hF3 := Lib.hid hF2
    clear hN2 hH2 bs2 hm2 hz2 hF2 hb2 hlt2
    have j0 := hF3.out.c0
    have c0 := hH3.out.c 0 _ rfl
    refine region_moves (fun u => u.cell? ⟨s2, 0, none⟩ = some (.int .i64 f0) ∧ u.cell? ⟨m, 0, none⟩ = some (.int .i64 id)) [] [(.free, 0), (.free, 1), (.free, 2), (.free, 3), (.take, 4), (.free, 5), (.free, 6), (.free, 7), (.take, 8), (.free, 9), (.free, 10)] _ (by kernel_rfl) (by kernel_rfl) (by kernel_rfl) (by kernel_rfl) (by decide) rfl (fun _ _ _ _ _ h => h) ?_
    simp only [List.filterMap_cons, List.filterMap_nil, List.getElem?_toArray, List.getElem?_cons_zero, List.getElem?_cons_succ, Option.map_some]
    iterate 4
      first
        | (refine mv_free ?_ (Or.inl ⟨by rfl, ?_⟩) (⟨j0, c0⟩) ?_
           rotate_left 1
           · intro u
             go_simp
             try simp only [d1]
             try simp only [d2]
             try simp only [d3]
             try simp only [d5]
             try with_reducible rfl
           simp only [Act.put, List.setIfInBounds_toArray, List.set_cons_zero, List.set_cons_succ])
        | (refine mv_free _ (Or.inr ⟨by rfl, rfl⟩) (⟨j0, c0⟩) ?_
           simp only [Act.put, List.setIfInBounds_toArray, List.set_cons_zero, List.set_cons_succ])
    iterate 1
      first
        | (refine mv_take ?_ (Or.inl ⟨by rfl, ?_⟩) (⟨j0, c0⟩) ?_
           rotate_left 1
           · intro u hu
             (try dsimp only at hu)
             go_simp
             try with_reducible rfl
           simp only [Act.put, List.setIfInBounds_toArray, List.set_cons_zero, List.set_cons_succ])
        | (refine mv_take _ (Or.inr ⟨by rfl, rfl⟩) (⟨j0, c0⟩) ?_
           simp only [Act.put, List.setIfInBounds_toArray, List.set_cons_zero, List.set_cons_succ])
    iterate 3
      first
        | (refine mv_free ?_ (Or.inl ⟨by rfl, ?_⟩) (⟨j0, c0⟩) ?_
           rotate_left 1
           · intro u
             go_simp
             try simp only [d1]
             try simp only [d2]
             try simp only [d3]
             try simp only [d5]
             try with_reducible rfl
           simp only [Act.put, List.setIfInBounds_toArray, List.set_cons_zero, List.set_cons_succ])
        | (refine mv_free _ (Or.inr ⟨by rfl, rfl⟩) (⟨j0, c0⟩) ?_
           simp only [Act.put, List.setIfInBounds_toArray, List.set_cons_zero, List.set_cons_succ])
    iterate 1
      first
        | (refine mv_take ?_ (Or.inl ⟨by rfl, ?_⟩) (⟨j0, c0⟩) ?_
           rotate_left 1
           · intro u hu
             (try dsimp only at hu)
             go_simp
             try with_reducible rfl
           simp only [Act.put, List.setIfInBounds_toArray, List.set_cons_zero, List.set_cons_succ])
        | (refine mv_take _ (Or.inr ⟨by rfl, rfl⟩) (⟨j0, c0⟩) ?_
           simp only [Act.put, List.setIfInBounds_toArray, List.set_cons_zero, List.set_cons_succ])
    iterate 2
      first
        | (refine mv_free ?_ (Or.inl ⟨by rfl, ?_⟩) (⟨j0, c0⟩) ?_
           rotate_left 1
           · intro u
             go_simp
             try simp only [d1]
             try simp only [d2]
             try simp only [d3]
             try simp only [d5]
             try with_reducible rfl
           simp only [Act.put, List.setIfInBounds_toArray, List.set_cons_zero, List.set_cons_succ])
        | (refine mv_free _ (Or.inr ⟨by rfl, rfl⟩) (⟨j0, c0⟩) ?_
           simp only [Act.put, List.setIfInBounds_toArray, List.set_cons_zero, List.set_cons_succ])
    refine mv_done ?_
    clear j0 c0
    replace hN3 := Lib.hid hN3.out.drew
    replace hF3 := Lib.hid hF3.out.drew
    replace hH3 := Lib.hid hH3.out.drew
    replace bs3 := Lib.hid bs3.out.drew
    generalize V2.drew = V3 at *
    clear eV2
    have r1 : IntKind.i64.wrap (re + 1) = re + 1 := by rw [IntKind.wrap_i64]; omega
    obtain ⟨U, eU, hH5, hO5⟩ := hH3.out.rref
    have hN5 := Lib.hid (hN3.out.only hO5 (by have := hlt.out; omega))
    have bs5 := Lib.hid (bs3.out.trans (.of_only hO5))
    have c8 := hH3.out.c 8 _ rfl
    have g8 := hH3.out.f 8 (by simp [rlC])
    replace hH5 := Lib.hid hH5
    replace eU := Lib.hid eU
    clear hN3 hH3 bs3 hO5 hF3
    go_upto_region 15 with (fail)
    rw [← eU.out]
    clear c8 g8
    obtain ⟨u9, e9, hF8, hb9⟩ := (hN5.out).laid 0 0 0 0
    have z0 := hF8.c0
    have z1 := hF8.c1
    have z2 := hF8.c2
    have z3 := hF8.c3
    rw [e9] at z0 z1 z2 z3
    have hR := Lib.hid (hH5.out.below hb9 hlt.out)
    have hBs := Lib.hid (bs5.out.last hb9)
    rw [e9] at hR hBs
    clear e9 hF8 hb9
    obtain ⟨q0, q1, q2, q3, p0, p1, p2, p3, -⟩ := hN5.out
    go_wp2
    refine bodyPost_ret (v := .tuple #[.agg #[.int .i64 0, .int .i64 0, .int .i64 0, .int .i64 0], .int .i64 10]) (by simp [results, Try.results34, go_sem, z0, z1, z2, z3]) rfl ?_
    exact ⟨rfl, hR.out, hBs.out⟩
set_option maxRecDepth 100000 in
set_option maxHeartbeats 8000000 in
theorem rlk_new {id i s v t ag ta re : Int} {kn : Bool} (m : Nat) (l : List Int) (w : World) (h : Held m (rlC id ag i s v t kn ta re) w) (a : Option Addr) (cap : Nat) (hr : RowIs .u8 w a l) (hne : ∀ x, a = some x → x.block ≠ m) (hL : l.length ≤ maxLen) (hB : BYT l) (ha : 0 ≤ ag ∧ ag ≤ 1000000) (hta : 0 ≤ ta ∧ ta ≤ 1000000) (hre : 0 ≤ re ∧ re ≤ 1000000) (hE : tkE l = 0) (hI : tkI l = id) (hK : kn = false) : Calls Try.prog 34 #[.pointer (some ⟨m, 0, none⟩), .slice a l.length cap] w fun e w' => e = .returned (.tuple #[.agg #[.int .i64 (tkI l), .int .i64 (tkS l), .int .i64 (tkV l), .int .i64 (tkT l)], .int .i64 0]) ∧ Held m (rlC id 0 (tkI l) (tkS l) (tkV l) (tkT l) true (ta + 1) re) w' ∧ Beside m w w' := by
  subst hK
  have hpos : 0 < l.length := by have := (tkE_ok hE).1; omega
  have dl : ((l.length : Int) == 0) = false := by simp; intro e; simp [e] at hpos
  have FT := Lib.hid (fun u (k : RowIs .u8 u a l) => rtake a cap l u k hL hB)
  rw [hE] at FT
  generalize tkI l = f0 at *
  generalize tkS l = f1 at *
  generalize tkV l = f2 at *
  generalize tkT l = f3 at *
  subst hI
  clear hL hB
  obtain ⟨V0, eV0, hb0, hN0, hz0⟩ := f4_alloc w 0 0 0 0
  have hlt := h.lt
  have hH0 := h.bel hb0
  have n1 : IntKind.i64.wrap (ag + 1) = ag + 1 := by rw [IntKind.wrap_i64]; omega
  rcases (show ag < 1000000 ∨ 1000000 ≤ ag by omega) with hag | hag
  · obtain ⟨U1, eU1, hH1, hO1⟩ := hH0.rage (show 0 ≤ ag ∧ ag < 1000000 from ⟨ha.1, hag⟩)
    have hr1 := Lib.hid ((hr.below hb0).only hO1 hne)
    have hN1 := Lib.hid (hN0.only hO1 (by omega))
    have bs1 := Lib.hid ((Beside.of_below (b := m) hb0).trans (.of_only hO1))
    replace hlt := Lib.hid hlt
    clear hr hne hpos
    replace eV0 := Lib.hid eV0
    replace eU1 := Lib.hid eU1
    have c1 := hH0.c 1 _ rfl
    have g1 := hH0.f 1 (by simp [rlC])
    replace hH1 := Lib.hid hH1
    clear hN0 hz0 h hb0 hO1 hH0 ha
    go_enter Try.func34, Try.ntmps34
    go_upto_region 1 with (fail)
    rw [← eV0.out]
    go_upto_region 3 with (fail)
    rw [← eU1.out]
    clear c1 g1
    go_wp2_with fail
    refine (FT.out _ hr1.out).mono ?_
    rintro e w2 ⟨rfl, hb2⟩
    have hN2 := hN1.out.keep hb2
    have hH2 := hH1.out.bel hb2
    have bs2 := bs1.out.trans (.of_below hb2)
    have hlt2 := hH2.lt
    clear hr1 hN1 hH1 bs1 eU1
    go_upto_region 6 with (fail)
    obtain ⟨V2, eV2, hm2, hF2, hz2⟩ := f4_alloc w2 f0 f1 f2 f3
    rw [← eV2]
    replace eV2 := Lib.hid eV2
    have hN3 := Lib.hid (hN2.keep hm2)
    have hH3 := Lib.hid (hH2.bel hm2)
    have bs3 := Lib.hid (bs2.trans (.of_below hm2))
    obtain ⟨s2, es2⟩ : ∃ x, x = w2.heap.size := ⟨_, rfl⟩
    rw [← es2] at hF2 ⊢
    have hs2 := Lib.hid (show m < s2 from by omega)
    replace es2 := Lib.hid es2
    have hF3 := Lib.hid hF2
    clear hN2 hH2 bs2 hm2 hz2 hF2 hb2 hlt2
    have j0 := hF3.out.c0
    have c0 := hH3.out.c 0 _ rfl
    refine region_moves (fun u => u.cell? ⟨s2, 0, none⟩ = some (.int .i64 f0) ∧ u.cell? ⟨m, 0, none⟩ = some (.int .i64 f0)) [] [(.free, 0), (.free, 1), (.free, 2), (.free, 3), (.take, 4), (.free, 5), (.free, 6), (.free, 7), (.take, 8), (.free, 9), (.free, 10)] _ (by kernel_rfl) (by kernel_rfl) (by kernel_rfl) (by kernel_rfl) (by decide) rfl (fun _ _ _ _ _ h => h) ?_
    simp only [List.filterMap_cons, List.filterMap_nil, List.getElem?_toArray, List.getElem?_cons_zero, List.getElem?_cons_succ, Option.map_some]
    iterate 4
      first
        | (refine mv_free ?_ (Or.inl ⟨by rfl, ?_⟩) (⟨j0, c0⟩) ?_
           rotate_left 1
           · intro u
             go_simp
             try simp only [d1]
             try simp only [d2]
             try simp only [d3]
             try simp only [d5]
             try with_reducible rfl
           simp only [Act.put, List.setIfInBounds_toArray, List.set_cons_zero, List.set_cons_succ])
        | (refine mv_free _ (Or.inr ⟨by rfl, rfl⟩) (⟨j0, c0⟩) ?_
           simp only [Act.put, List.setIfInBounds_toArray, List.set_cons_zero, List.set_cons_succ])
    iterate 1
      first
        | (refine mv_take ?_ (Or.inl ⟨by rfl, ?_⟩) (⟨j0, c0⟩) ?_
           rotate_left 1
           · intro u hu
             (try dsimp only at hu)
             go_simp
             try with_reducible rfl
           simp only [Act.put, List.setIfInBounds_toArray, List.set_cons_zero, List.set_cons_succ])
        | (refine mv_take _ (Or.inr ⟨by rfl, rfl⟩) (⟨j0, c0⟩) ?_
           simp only [Act.put, List.setIfInBounds_toArray, List.set_cons_zero, List.set_cons_succ])
    iterate 3
      first
        | (refine mv_free ?_ (Or.inl ⟨by rfl, ?_⟩) (⟨j0, c0⟩) ?_
           rotate_left 1
           · intro u
             go_simp
             try simp only [d1]
             try simp only [d2]
             try simp only [d3]
             try simp only [d5]
             try with_reducible rfl
           simp only [Act.put, List.setIfInBounds_toArray, List.set_cons_zero, List.set_cons_succ])
        | (refine mv_free _ (Or.inr ⟨by rfl, rfl⟩) (⟨j0, c0⟩) ?_
           simp only [Act.put, List.setIfInBounds_toArray, List.set_cons_zero, List.set_cons_succ])
    iterate 1
      first
        | (refine mv_take ?_ (Or.inl ⟨by rfl, ?_⟩) (⟨j0, c0⟩) ?_
           rotate_left 1
           · intro u hu
             (try dsimp only at hu)
             go_simp
             try with_reducible rfl
           simp only [Act.put, List.setIfInBounds_toArray, List.set_cons_zero, List.set_cons_succ])
        | (refine mv_take _ (Or.inr ⟨by rfl, rfl⟩) (⟨j0, c0⟩) ?_
           simp only [Act.put, List.setIfInBounds_toArray, List.set_cons_zero, List.set_cons_succ])
    iterate 2
      first
        | (refine mv_free ?_ (Or.inl ⟨by rfl, ?_⟩) (⟨j0, c0⟩) ?_
           rotate_left 1
           · intro u
             go_simp
             try simp only [d1]
             try simp only [d2]
             try simp only [d3]
             try simp only [d5]
             try with_reducible rfl
           simp only [Act.put, List.setIfInBounds_toArray, List.set_cons_zero, List.set_cons_succ])
        | (refine mv_free _ (Or.inr ⟨by rfl, rfl⟩) (⟨j0, c0⟩) ?_
           simp only [Act.put, List.setIfInBounds_toArray, List.set_cons_zero, List.set_cons_succ])
    refine mv_done ?_
    go_wp2_with fail
    have j1 := hF3.out.c1
    have c3 := hH3.out.c 3 _ rfl
    have c6 := hH3.out.c 6 _ rfl
    refine region_moves (fun u => u.cell? ⟨s2, 1, none⟩ = some (.int .i64 f1) ∧ u.cell? ⟨m, 3, none⟩ = some (.int .i64 s) ∧ u.cell? ⟨m, 6, none⟩ = some (.bool false)) [] [(.free, 0), (.free, 1), (.free, 2), (.take, 3), (.free, 4), (.free, 5), (.free, 6), (.free, 7), (.free, 8), (.take, 9), (.free, 10), (.free, 11), (.free, 12), (.take, 13), (.free, 14), (.free, 15)] _ (by kernel_rfl) (by kernel_rfl) (by kernel_rfl) (by kernel_rfl) (by decide) rfl (fun _ _ _ _ _ h => h) ?_
    simp only [List.filterMap_cons, List.filterMap_nil, List.getElem?_toArray, List.getElem?_cons_zero, List.getElem?_cons_succ, Option.map_some]
    iterate 3
      first
        | (refine mv_free ?_ (Or.inl ⟨by rfl, ?_⟩) (⟨j1, c3, c6⟩) ?_
           rotate_left 1
           · intro u
             go_simp
             try simp only [d1]
             try simp only [d2]
             try simp only [d3]
             try simp only [d5]
             try with_reducible rfl
           simp only [Act.put, List.setIfInBounds_toArray, List.set_cons_zero, List.set_cons_succ])
        | (refine mv_free _ (Or.inr ⟨by rfl, rfl⟩) (⟨j1, c3, c6⟩) ?_
           simp only [Act.put, List.setIfInBounds_toArray, List.set_cons_zero, List.set_cons_succ])
    iterate 1
      first
        | (refine mv_take ?_ (Or.inl ⟨by rfl, ?_⟩) (⟨j1, c3, c6⟩) ?_
           rotate_left 1
           · intro u hu
             (try dsimp only at hu)
             go_simp
             try with_reducible rfl
           simp only [Act.put, List.setIfInBounds_toArray, List.set_cons_zero, List.set_cons_succ])
        | (refine mv_take _ (Or.inr ⟨by rfl, rfl⟩) (⟨j1, c3, c6⟩) ?_
           simp only [Act.put, List.setIfInBounds_toArray, List.set_cons_zero, List.set_cons_succ])
    iterate 5
      first
        | (refine mv_free ?_ (Or.inl ⟨by rfl, ?_⟩) (⟨j1, c3, c6⟩) ?_
           rotate_left 1
           · intro u
             go_simp
             try simp only [d1]
             try simp only [d2]
             try simp only [d3]
             try simp only [d5]
             try with_reducible rfl
           simp only [Act.put, List.setIfInBounds_toArray, List.set_cons_zero, List.set_cons_succ])
        | (refine mv_free _ (Or.inr ⟨by rfl, rfl⟩) (⟨j1, c3, c6⟩) ?_
           simp only [Act.put, List.setIfInBounds_toArray, List.set_cons_zero, List.set_cons_succ])
    iterate 1
      first
        | (refine mv_take ?_ (Or.inl ⟨by rfl, ?_⟩) (⟨j1, c3, c6⟩) ?_
           rotate_left 1
           · intro u hu
             (try dsimp only at hu)
             go_simp
             try with_reducible rfl
           simp only [Act.put, List.setIfInBounds_toArray, List.set_cons_zero, List.set_cons_succ])
        | (refine mv_take _ (Or.inr ⟨by rfl, rfl⟩) (⟨j1, c3, c6⟩) ?_
           simp only [Act.put, List.setIfInBounds_toArray, List.set_cons_zero, List.set_cons_succ])
    iterate 3
      first
        | (refine mv_free ?_ (Or.inl ⟨by rfl, ?_⟩) (⟨j1, c3, c6⟩) ?_
           rotate_left 1
           · intro u
             go_simp
             try simp only [d1]
             try simp only [d2]
             try simp only [d3]
             try simp only [d5]
             try with_reducible rfl
           simp only [Act.put, List.setIfInBounds_toArray, List.set_cons_zero, List.set_cons_succ])
        | (refine mv_free _ (Or.inr ⟨by rfl, rfl⟩) (⟨j1, c3, c6⟩) ?_
           simp only [Act.put, List.setIfInBounds_toArray, List.set_cons_zero, List.set_cons_succ])
    iterate 1
      first
        | (refine mv_take ?_ (Or.inl ⟨by rfl, ?_⟩) (⟨j1, c3, c6⟩) ?_
           rotate_left 1
           · intro u hu
             (try dsimp only at hu)
             go_simp
             try with_reducible rfl
           simp only [Act.put, List.setIfInBounds_toArray, List.set_cons_zero, List.set_cons_succ])
        | (refine mv_take _ (Or.inr ⟨by rfl, rfl⟩) (⟨j1, c3, c6⟩) ?_
           simp only [Act.put, List.setIfInBounds_toArray, List.set_cons_zero, List.set_cons_succ])
    iterate 2
      first
        | (refine mv_free ?_ (Or.inl ⟨by rfl, ?_⟩) (⟨j1, c3, c6⟩) ?_
           rotate_left 1
           · intro u
             go_simp
             try simp only [d1]
             try simp only [d2]
             try simp only [d3]
             try simp only [d5]
             try with_reducible rfl
           simp only [Act.put, List.setIfInBounds_toArray, List.set_cons_zero, List.set_cons_succ])
        | (refine mv_free _ (Or.inr ⟨by rfl, rfl⟩) (⟨j1, c3, c6⟩) ?_
           simp only [Act.put, List.setIfInBounds_toArray, List.set_cons_zero, List.set_cons_succ])
    refine mv_done ?_
    clear j0 c0 j1 c3 c6
    replace hN3 := Lib.hid hN3.out.drew.drew
    replace hF3 := Lib.hid hF3.out.drew.drew
    replace hH3 := Lib.hid hH3.out.drew.drew
    replace bs3 := Lib.hid bs3.out.drew.drew
    generalize V2.drew.drew = V3 at *
    clear eV2
    obtain ⟨U5, eU5, hH5, hO5⟩ := hH3.out.rlast f0 f1 f2 f3
    have hN5 := Lib.hid (hN3.out.only hO5 (by have := hlt.out; omega))
    have hF5 := Lib.hid (hF3.out.only hO5 (by have := hs2.out; omega))
    have bs5 := Lib.hid (bs3.out.trans (.of_only hO5))
    replace hH5 := Lib.hid hH5
    replace eU5 := Lib.hid eU5
    obtain ⟨j0, j1, j2, j3, -, -, -, -, -⟩ := hF3.out
    have hO := hH3.out
    obtain ⟨c0, g0⟩ := hO.one 0 rfl
    obtain ⟨c1, g1⟩ := hO.one 1 rfl
    obtain ⟨c2, g2⟩ := hO.one 2 rfl
    obtain ⟨c3, g3⟩ := hO.one 3 rfl
    obtain ⟨c4, g4⟩ := hO.one 4 rfl
    obtain ⟨c5, g5⟩ := hO.one 5 rfl
    obtain ⟨c6, g6⟩ := hO.one 6 rfl
    obtain ⟨c7, g7⟩ := hO.one 7 rfl
    obtain ⟨c8, g8⟩ := hO.one 8 rfl
    clear hO
    go_upto_region 13 with (fail)
    rw [← eU5.out]
    clear c0 g0 c1 g1 c2 g2 c3 g3 c4 g4 c5 g5 c6 g6 c7 g7 c8 g8 j0 j1 j2 j3 hN3 hH3 bs3 hF3 hO5
    have r1 : IntKind.i64.wrap (ta + 1) = ta + 1 := by rw [IntKind.wrap_i64]; omega
    obtain ⟨U, eU, hH7, hO7⟩ := hH5.out.rtak
    have hN7 := Lib.hid (hN5.out.only hO7 (by have := hlt.out; omega))
    have hF7 := hF5.out.only hO7 (by have := hs2.out; omega)
    have bs7 := Lib.hid (bs5.out.trans (.of_only hO7))
    have c7 := hH5.out.c 7 _ rfl
    have g7 := hH5.out.f 7 (by simp [rlC])
    have c1 := hH5.out.c 1 _ rfl
    have g1 := hH5.out.f 1 (by simp [rlC])
    replace hH7 := Lib.hid hH7
    replace eU := Lib.hid eU
    replace hF7 := Lib.hid hF7
    clear hN5 hH5 bs5 hO7 hF5
    go_upto_region 18 with (fail)
    rw [← eU.out]
    clear c7 g7 c1 g1
    obtain ⟨j0, j1, j2, j3, -, -, -, -, -⟩ := hF7.out
    obtain ⟨u9, e9, hF8, hb9⟩ := (hN7.out).laid f0 f1 f2 f3
    have z0 := hF8.c0
    have z1 := hF8.c1
    have z2 := hF8.c2
    have z3 := hF8.c3
    rw [e9] at z0 z1 z2 z3
    have hR := Lib.hid (hH7.out.below hb9 hlt.out)
    have hBs := Lib.hid (bs7.out.last hb9)
    rw [e9] at hR hBs
    clear e9 hF8 hb9
    obtain ⟨q0, q1, q2, q3, p0, p1, p2, p3, -⟩ := hN7.out
    go_wp2
    refine bodyPost_ret (v := .tuple #[.agg #[.int .i64 f0, .int .i64 f1, .int .i64 f2, .int .i64 f3], .int .i64 0]) (by simp [results, Try.results34, go_sem, z0, z1, z2, z3]) rfl ?_
    exact ⟨rfl, hR.out, hBs.out⟩
  · obtain ⟨U1, eU1, hH1, hO1⟩ := hH0.rage2 (show 1000000 ≤ ag ∧ ag ≤ 1000000 from ⟨hag, ha.2⟩)
    have hr1 := Lib.hid ((hr.below hb0).only hO1 hne)
    have hN1 := Lib.hid (hN0.only hO1 (by omega))
    have bs1 := Lib.hid ((Beside.of_below (b := m) hb0).trans (.of_only hO1))
    replace hlt := Lib.hid hlt
    clear hr hne hpos
    replace eV0 := Lib.hid eV0
    replace eU1 := Lib.hid eU1
    have c1 := hH0.c 1 _ rfl
    have g1 := hH0.f 1 (by simp [rlC])
    replace hH1 := Lib.hid hH1
    clear hN0 hz0 h hb0 hO1 hH0 ha
    go_enter Try.func34, Try.ntmps34
    go_upto_region 1 with (fail)
    rw [← eV0.out]
    go_upto_region 3 with (fail)
    rw [← eU1.out]
    clear c1 g1
    go_wp2_with fail
    refine (FT.out _ hr1.out).mono ?_
    rintro e w2 ⟨rfl, hb2⟩
    have hN2 := hN1.out.keep hb2
    have hH2 := hH1.out.bel hb2
    have bs2 := bs1.out.trans (.of_below hb2)
    have hlt2 := hH2.lt
    clear hr1 hN1 hH1 bs1 eU1
    go_upto_region 6 with (fail)
    obtain ⟨V2, eV2, hm2, hF2, hz2⟩ := f4_alloc w2 f0 f1 f2 f3
    rw [← eV2]
    replace eV2 := Lib.hid eV2
    have hN3 := Lib.hid (hN2.keep hm2)
    have hH3 := Lib.hid (hH2.bel hm2)
    have bs3 := Lib.hid (bs2.trans (.of_below hm2))
    obtain ⟨s2, es2⟩ : ∃ x, x = w2.heap.size := ⟨_, rfl⟩
    rw [← es2] at hF2 ⊢
    have hs2 := Lib.hid (show m < s2 from by omega)
    replace es2 := Lib.hid es2
    have hF3 := Lib.hid hF2
    clear hN2 hH2 bs2 hm2 hz2 hF2 hb2 hlt2
    have j0 := hF3.out.c0
    have c0 := hH3.out.c 0 _ rfl
    refine region_moves (fun u => u.cell? ⟨s2, 0, none⟩ = some (.int .i64 f0) ∧ u.cell? ⟨m, 0, none⟩ = some (.int .i64 f0)) [] [(.free, 0), (.free, 1), (.free, 2), (.free, 3), (.take, 4), (.free, 5), (.free, 6), (.free, 7), (.take, 8), (.free, 9), (.free, 10)] _ (by kernel_rfl) (by kernel_rfl) (by kernel_rfl) (by kernel_rfl) (by decide) rfl (fun _ _ _ _ _ h => h) ?_
    simp only [List.filterMap_cons, List.filterMap_nil, List.getElem?_toArray, List.getElem?_cons_zero, List.getElem?_cons_succ, Option.map_some]
    iterate 4
      first
        | (refine mv_free ?_ (Or.inl ⟨by rfl, ?_⟩) (⟨j0, c0⟩) ?_
           rotate_left 1
           · intro u
             go_simp
             try simp only [d1]
             try simp only [d2]
             try simp only [d3]
             try simp only [d5]
             try with_reducible rfl
           simp only [Act.put, List.setIfInBounds_toArray, List.set_cons_zero, List.set_cons_succ])
        | (refine mv_free _ (Or.inr ⟨by rfl, rfl⟩) (⟨j0, c0⟩) ?_
           simp only [Act.put, List.setIfInBounds_toArray, List.set_cons_zero, List.set_cons_succ])
    iterate 1
      first
        | (refine mv_take ?_ (Or.inl ⟨by rfl, ?_⟩) (⟨j0, c0⟩) ?_
           rotate_left 1
           · intro u hu
             (try dsimp only at hu)
             go_simp
             try with_reducible rfl
           simp only [Act.put, List.setIfInBounds_toArray, List.set_cons_zero, List.set_cons_succ])
        | (refine mv_take _ (Or.inr ⟨by rfl, rfl⟩) (⟨j0, c0⟩) ?_
           simp only [Act.put, List.setIfInBounds_toArray, List.set_cons_zero, List.set_cons_succ])
    iterate 3
      first
        | (refine mv_free ?_ (Or.inl ⟨by rfl, ?_⟩) (⟨j0, c0⟩) ?_
           rotate_left 1
           · intro u
             go_simp
             try simp only [d1]
             try simp only [d2]
             try simp only [d3]
             try simp only [d5]
             try with_reducible rfl
           simp only [Act.put, List.setIfInBounds_toArray, List.set_cons_zero, List.set_cons_succ])
        | (refine mv_free _ (Or.inr ⟨by rfl, rfl⟩) (⟨j0, c0⟩) ?_
           simp only [Act.put, List.setIfInBounds_toArray, List.set_cons_zero, List.set_cons_succ])
    iterate 1
      first
        | (refine mv_take ?_ (Or.inl ⟨by rfl, ?_⟩) (⟨j0, c0⟩) ?_
           rotate_left 1
           · intro u hu
             (try dsimp only at hu)
             go_simp
             try with_reducible rfl
           simp only [Act.put, List.setIfInBounds_toArray, List.set_cons_zero, List.set_cons_succ])
        | (refine mv_take _ (Or.inr ⟨by rfl, rfl⟩) (⟨j0, c0⟩) ?_
           simp only [Act.put, List.setIfInBounds_toArray, List.set_cons_zero, List.set_cons_succ])
    iterate 2
      first
        | (refine mv_free ?_ (Or.inl ⟨by rfl, ?_⟩) (⟨j0, c0⟩) ?_
           rotate_left 1
           · intro u
             go_simp
             try simp only [d1]
             try simp only [d2]
             try simp only [d3]
             try simp only [d5]
             try with_reducible rfl
           simp only [Act.put, List.setIfInBounds_toArray, List.set_cons_zero, List.set_cons_succ])
        | (refine mv_free _ (Or.inr ⟨by rfl, rfl⟩) (⟨j0, c0⟩) ?_
           simp only [Act.put, List.setIfInBounds_toArray, List.set_cons_zero, List.set_cons_succ])
    refine mv_done ?_
    go_wp2_with fail
    have j1 := hF3.out.c1
    have c3 := hH3.out.c 3 _ rfl
    have c6 := hH3.out.c 6 _ rfl
    refine region_moves (fun u => u.cell? ⟨s2, 1, none⟩ = some (.int .i64 f1) ∧ u.cell? ⟨m, 3, none⟩ = some (.int .i64 s) ∧ u.cell? ⟨m, 6, none⟩ = some (.bool false)) [] [(.free, 0), (.free, 1), (.free, 2), (.take, 3), (.free, 4), (.free, 5), (.free, 6), (.free, 7), (.free, 8), (.take, 9), (.free, 10), (.free, 11), (.free, 12), (.take, 13), (.free, 14), (.free, 15)] _ (by kernel_rfl) (by kernel_rfl) (by kernel_rfl) (by kernel_rfl) (by decide) rfl (fun _ _ _ _ _ h => h) ?_
    simp only [List.filterMap_cons, List.filterMap_nil, List.getElem?_toArray, List.getElem?_cons_zero, List.getElem?_cons_succ, Option.map_some]
    iterate 3
      first
        | (refine mv_free ?_ (Or.inl ⟨by rfl, ?_⟩) (⟨j1, c3, c6⟩) ?_
           rotate_left 1
           · intro u
             go_simp
             try simp only [d1]
             try simp only [d2]
             try simp only [d3]
             try simp only [d5]
             try with_reducible rfl
           simp only [Act.put, List.setIfInBounds_toArray, List.set_cons_zero, List.set_cons_succ])
        | (refine mv_free _ (Or.inr ⟨by rfl, rfl⟩) (⟨j1, c3, c6⟩) ?_
           simp only [Act.put, List.setIfInBounds_toArray, List.set_cons_zero, List.set_cons_succ])
    iterate 1
      first
        | (refine mv_take ?_ (Or.inl ⟨by rfl, ?_⟩) (⟨j1, c3, c6⟩) ?_
           rotate_left 1
           · intro u hu
             (try dsimp only at hu)
             go_simp
             try with_reducible rfl
           simp only [Act.put, List.setIfInBounds_toArray, List.set_cons_zero, List.set_cons_succ])
        | (refine mv_take _ (Or.inr ⟨by rfl, rfl⟩) (⟨j1, c3, c6⟩) ?_
           simp only [Act.put, List.setIfInBounds_toArray, List.set_cons_zero, List.set_cons_succ])
    iterate 5
      first
        | (refine mv_free ?_ (Or.inl ⟨by rfl, ?_⟩) (⟨j1, c3, c6⟩) ?_
           rotate_left 1
           · intro u
             go_simp
             try simp only [d1]
             try simp only [d2]
             try simp only [d3]
             try simp only [d5]
             try with_reducible rfl
           simp only [Act.put, List.setIfInBounds_toArray, List.set_cons_zero, List.set_cons_succ])
        | (refine mv_free _ (Or.inr ⟨by rfl, rfl⟩) (⟨j1, c3, c6⟩) ?_
           simp only [Act.put, List.setIfInBounds_toArray, List.set_cons_zero, List.set_cons_succ])
    iterate 1
      first
        | (refine mv_take ?_ (Or.inl ⟨by rfl, ?_⟩) (⟨j1, c3, c6⟩) ?_
           rotate_left 1
           · intro u hu
             (try dsimp only at hu)
             go_simp
             try with_reducible rfl
           simp only [Act.put, List.setIfInBounds_toArray, List.set_cons_zero, List.set_cons_succ])
        | (refine mv_take _ (Or.inr ⟨by rfl, rfl⟩) (⟨j1, c3, c6⟩) ?_
           simp only [Act.put, List.setIfInBounds_toArray, List.set_cons_zero, List.set_cons_succ])
    iterate 3
      first
        | (refine mv_free ?_ (Or.inl ⟨by rfl, ?_⟩) (⟨j1, c3, c6⟩) ?_
           rotate_left 1
           · intro u
             go_simp
             try simp only [d1]
             try simp only [d2]
             try simp only [d3]
             try simp only [d5]
             try with_reducible rfl
           simp only [Act.put, List.setIfInBounds_toArray, List.set_cons_zero, List.set_cons_succ])
        | (refine mv_free _ (Or.inr ⟨by rfl, rfl⟩) (⟨j1, c3, c6⟩) ?_
           simp only [Act.put, List.setIfInBounds_toArray, List.set_cons_zero, List.set_cons_succ])
    iterate 1
      first
        | (refine mv_take ?_ (Or.inl ⟨by rfl, ?_⟩) (⟨j1, c3, c6⟩) ?_
           rotate_left 1
           · intro u hu
             (try dsimp only at hu)
             go_simp
             try with_reducible rfl
           simp only [Act.put, List.setIfInBounds_toArray, List.set_cons_zero, List.set_cons_succ])
        | (refine mv_take _ (Or.inr ⟨by rfl, rfl⟩) (⟨j1, c3, c6⟩) ?_
           simp only [Act.put, List.setIfInBounds_toArray, List.set_cons_zero, List.set_cons_succ])
    iterate 2
      first
        | (refine mv_free ?_ (Or.inl ⟨by rfl, ?_⟩) (⟨j1, c3, c6⟩) ?_
           rotate_left 1
           · intro u
             go_simp
             try simp only [d1]
             try simp only [d2]
             try simp only [d3]
             try simp only [d5]
             try with_reducible rfl
           simp only [Act.put, List.setIfInBounds_toArray, List.set_cons_zero, List.set_cons_succ])
        | (refine mv_free _ (Or.inr ⟨by rfl, rfl⟩) (⟨j1, c3, c6⟩) ?_
           simp only [Act.put, List.setIfInBounds_toArray, List.set_cons_zero, List.set_cons_succ])
    refine mv_done ?_
    clear j0 c0 j1 c3 c6
    replace hN3 := Lib.hid hN3.out.drew.drew
    replace hF3 := Lib.hid hF3.out.drew.drew
    replace hH3 := Lib.hid hH3.out.drew.drew
    replace bs3 := Lib.hid bs3.out.drew.drew
    generalize V2.drew.drew = V3 at *
    clear eV2
    obtain ⟨U5, eU5, hH5, hO5⟩ := hH3.out.rlast f0 f1 f2 f3
    have hN5 := Lib.hid (hN3.out.only hO5 (by have := hlt.out; omega))
    have hF5 := Lib.hid (hF3.out.only hO5 (by have := hs2.out; omega))
    have bs5 := Lib.hid (bs3.out.trans (.of_only hO5))
    replace hH5 := Lib.hid hH5
    replace eU5 := Lib.hid eU5
    obtain ⟨j0, j1, j2, j3, -, -, -, -, -⟩ := hF3.out
    have hO := hH3.out
    obtain ⟨c0, g0⟩ := hO.one 0 rfl
    obtain ⟨c1, g1⟩ := hO.one 1 rfl
    obtain ⟨c2, g2⟩ := hO.one 2 rfl
    obtain ⟨c3, g3⟩ := hO.one 3 rfl
    obtain ⟨c4, g4⟩ := hO.one 4 rfl
    obtain ⟨c5, g5⟩ := hO.one 5 rfl
    obtain ⟨c6, g6⟩ := hO.one 6 rfl
    obtain ⟨c7, g7⟩ := hO.one 7 rfl
    obtain ⟨c8, g8⟩ := hO.one 8 rfl
    clear hO
    go_upto_region 13 with (fail)
    rw [← eU5.out]
    clear c0 g0 c1 g1 c2 g2 c3 g3 c4 g4 c5 g5 c6 g6 c7 g7 c8 g8 j0 j1 j2 j3 hN3 hH3 bs3 hF3 hO5
    have r1 : IntKind.i64.wrap (ta + 1) = ta + 1 := by rw [IntKind.wrap_i64]; omega
    obtain ⟨U, eU, hH7, hO7⟩ := hH5.out.rtak
    have hN7 := Lib.hid (hN5.out.only hO7 (by have := hlt.out; omega))
    have hF7 := hF5.out.only hO7 (by have := hs2.out; omega)
    have bs7 := Lib.hid (bs5.out.trans (.of_only hO7))
    have c7 := hH5.out.c 7 _ rfl
    have g7 := hH5.out.f 7 (by simp [rlC])
    have c1 := hH5.out.c 1 _ rfl
    have g1 := hH5.out.f 1 (by simp [rlC])
    replace hH7 := Lib.hid hH7
    replace eU := Lib.hid eU
    replace hF7 := Lib.hid hF7
    clear hN5 hH5 bs5 hO7 hF5
    go_upto_region 18 with (fail)
    rw [← eU.out]
    clear c7 g7 c1 g1
    obtain ⟨j0, j1, j2, j3, -, -, -, -, -⟩ := hF7.out
    obtain ⟨u9, e9, hF8, hb9⟩ := (hN7.out).laid f0 f1 f2 f3
    have z0 := hF8.c0
    have z1 := hF8.c1
    have z2 := hF8.c2
    have z3 := hF8.c3
    rw [e9] at z0 z1 z2 z3
    have hR := Lib.hid (hH7.out.below hb9 hlt.out)
    have hBs := Lib.hid (bs7.out.last hb9)
    rw [e9] at hR hBs
    clear e9 hF8 hb9
    obtain ⟨q0, q1, q2, q3, p0, p1, p2, p3, -⟩ := hN7.out
    go_wp2
    refine bodyPost_ret (v := .tuple #[.agg #[.int .i64 f0, .int .i64 f1, .int .i64 f2, .int .i64 f3], .int .i64 0]) (by simp [results, Try.results34, go_sem, z0, z1, z2, z3]) rfl ?_
    exact ⟨rfl, hR.out, hBs.out⟩
set_option maxRecDepth 100000 in
set_option maxHeartbeats 8000000 in
theorem rlk_ok {id i s v t ag ta re : Int} {kn : Bool} (m : Nat) (l : List Int) (w : World) (h : Held m (rlC id ag i s v t kn ta re) w) (a : Option Addr) (cap : Nat) (hr : RowIs .u8 w a l) (hne : ∀ x, a = some x → x.block ≠ m) (hL : l.length ≤ maxLen) (hB : BYT l) (ha : 0 ≤ ag ∧ ag ≤ 1000000) (hta : 0 ≤ ta ∧ ta ≤ 1000000) (hre : 0 ≤ re ∧ re ≤ 1000000) (hE : tkE l = 0) (hI : tkI l = id) (hK : kn = true) (hS : tkS l = (s + 1) % 256) (s0 : 0 ≤ s ∧ s ≤ 255) : Calls Try.prog 34 #[.pointer (some ⟨m, 0, none⟩), .slice a l.length cap] w fun e w' => e = .returned (.tuple #[.agg #[.int .i64 (tkI l), .int .i64 (tkS l), .int .i64 (tkV l), .int .i64 (tkT l)], .int .i64 0]) ∧ Held m (rlC id 0 (tkI l) (tkS l) (tkV l) (tkT l) true (ta + 1) re) w' ∧ Beside m w w' := by
  subst hK
  have hpos : 0 < l.length := by have := (tkE_ok hE).1; omega
  have dl : ((l.length : Int) == 0) = false := by simp; intro e; simp [e] at hpos
  have FT := Lib.hid (fun u (k : RowIs .u8 u a l) => rtake a cap l u k hL hB)
  rw [hE] at FT
  generalize tkI l = f0 at *
  generalize tkS l = f1 at *
  generalize tkV l = f2 at *
  generalize tkT l = f3 at *
  subst hI
  have m1 : IntKind.i64.wrap (s + 1) = s + 1 := by rw [IntKind.wrap_i64]; omega
  have m2 : (s + 1).tmod 256 = f1 := by rw [Int.tmod_eq_emod_of_nonneg (by omega)]; exact hS.symm
  have d8 : (f1 != f1) = false := by simp
  clear hS s0
  clear hL hB
  obtain ⟨V0, eV0, hb0, hN0, hz0⟩ := f4_alloc w 0 0 0 0
  have hlt := h.lt
  have hH0 := h.bel hb0
  have n1 : IntKind.i64.wrap (ag + 1) = ag + 1 := by rw [IntKind.wrap_i64]; omega
  rcases (show ag < 1000000 ∨ 1000000 ≤ ag by omega) with hag | hag
  · obtain ⟨U1, eU1, hH1, hO1⟩ := hH0.rage (show 0 ≤ ag ∧ ag < 1000000 from ⟨ha.1, hag⟩)
    have hr1 := Lib.hid ((hr.below hb0).only hO1 hne)
    have hN1 := Lib.hid (hN0.only hO1 (by omega))
    have bs1 := Lib.hid ((Beside.of_below (b := m) hb0).trans (.of_only hO1))
    replace hlt := Lib.hid hlt
    clear hr hne hpos
    replace eV0 := Lib.hid eV0
    replace eU1 := Lib.hid eU1
    have c1 := hH0.c 1 _ rfl
    have g1 := hH0.f 1 (by simp [rlC])
    replace hH1 := Lib.hid hH1
    clear hN0 hz0 h hb0 hO1 hH0 ha
    go_enter Try.func34, Try.ntmps34
    go_upto_region 1 with (fail)
    rw [← eV0.out]
    go_upto_region 3 with (fail)
    rw [← eU1.out]
    clear c1 g1
    go_wp2_with fail
    refine (FT.out _ hr1.out).mono ?_
    rintro e w2 ⟨rfl, hb2⟩
    have hN2 := hN1.out.keep hb2
    have hH2 := hH1.out.bel hb2
    have bs2 := bs1.out.trans (.of_below hb2)
    have hlt2 := hH2.lt
    clear hr1 hN1 hH1 bs1 eU1
    go_upto_region 6 with (fail)
    obtain ⟨V2, eV2, hm2, hF2, hz2⟩ := f4_alloc w2 f0 f1 f2 f3
    rw [← eV2]
    replace eV2 := Lib.hid eV2
    have hN3 := Lib.hid (hN2.keep hm2)
    have hH3 := Lib.hid (hH2.bel hm2)
    have bs3 := Lib.hid (bs2.trans (.of_below hm2))
    obtain ⟨s2, es2⟩ : ∃ x, x = w2.heap.size := ⟨_, rfl⟩
    rw [← es2] at hF2 ⊢
    have hs2 := Lib.hid (show m < s2 from by omega)
    replace es2 := Lib.hid es2
    have hF3 := Lib.hid hF2
    clear hN2 hH2 bs2 hm2 hz2 hF2 hb2 hlt2
    have j0 := hF3.out.c0
    have c0 := hH3.out.c 0 _ rfl
    refine region_moves (fun u => u.cell? ⟨s2, 0, none⟩ = some (.int .i64 f0) ∧ u.cell? ⟨m, 0, none⟩ = some (.int .i64 f0)) [] [(.free, 0), (.free, 1), (.free, 2), (.free, 3), (.take, 4), (.free, 5), (.free, 6), (.free, 7), (.take, 8), (.free, 9), (.free, 10)] _ (by kernel_rfl) (by kernel_rfl) (by kernel_rfl) (by kernel_rfl) (by decide) rfl (fun _ _ _ _ _ h => h) ?_
    simp only [List.filterMap_cons, List.filterMap_nil, List.getElem?_toArray, List.getElem?_cons_zero, List.getElem?_cons_succ, Option.map_some]
    iterate 4
      first
        | (refine mv_free ?_ (Or.inl ⟨by rfl, ?_⟩) (⟨j0, c0⟩) ?_
           rotate_left 1
           · intro u
             go_simp
             try simp only [d1]
             try simp only [d2]
             try simp only [d3]
             try simp only [d5]
             try with_reducible rfl
           simp only [Act.put, List.setIfInBounds_toArray, List.set_cons_zero, List.set_cons_succ])
        | (refine mv_free _ (Or.inr ⟨by rfl, rfl⟩) (⟨j0, c0⟩) ?_
           simp only [Act.put, List.setIfInBounds_toArray, List.set_cons_zero, List.set_cons_succ])
    iterate 1
      first
        | (refine mv_take ?_ (Or.inl ⟨by rfl, ?_⟩) (⟨j0, c0⟩) ?_
           rotate_left 1
           · intro u hu
             (try dsimp only at hu)
             go_simp
             try with_reducible rfl
           simp only [Act.put, List.setIfInBounds_toArray, List.set_cons_zero, List.set_cons_succ])
        | (refine mv_take _ (Or.inr ⟨by rfl, rfl⟩) (⟨j0, c0⟩) ?_
           simp only [Act.put, List.setIfInBounds_toArray, List.set_cons_zero, List.set_cons_succ])
    iterate 3
      first
        | (refine mv_free ?_ (Or.inl ⟨by rfl, ?_⟩) (⟨j0, c0⟩) ?_
           rotate_left 1
           · intro u
             go_simp
             try simp only [d1]
             try simp only [d2]
             try simp only [d3]
             try simp only [d5]
             try with_reducible rfl
           simp only [Act.put, List.setIfInBounds_toArray, List.set_cons_zero, List.set_cons_succ])
        | (refine mv_free _ (Or.inr ⟨by rfl, rfl⟩) (⟨j0, c0⟩) ?_
           simp only [Act.put, List.setIfInBounds_toArray, List.set_cons_zero, List.set_cons_succ])
    iterate 1
      first
        | (refine mv_take ?_ (Or.inl ⟨by rfl, ?_⟩) (⟨j0, c0⟩) ?_
           rotate_left 1
           · intro u hu
             (try dsimp only at hu)
             go_simp
             try with_reducible rfl
           simp only [Act.put, List.setIfInBounds_toArray, List.set_cons_zero, List.set_cons_succ])
        | (refine mv_take _ (Or.inr ⟨by rfl, rfl⟩) (⟨j0, c0⟩) ?_
           simp only [Act.put, List.setIfInBounds_toArray, List.set_cons_zero, List.set_cons_succ])
    iterate 2
      first
        | (refine mv_free ?_ (Or.inl ⟨by rfl, ?_⟩) (⟨j0, c0⟩) ?_
           rotate_left 1
           · intro u
             go_simp
             try simp only [d1]
             try simp only [d2]
             try simp only [d3]
             try simp only [d5]
             try with_reducible rfl
           simp only [Act.put, List.setIfInBounds_toArray, List.set_cons_zero, List.set_cons_succ])
        | (refine mv_free _ (Or.inr ⟨by rfl, rfl⟩) (⟨j0, c0⟩) ?_
           simp only [Act.put, List.setIfInBounds_toArray, List.set_cons_zero, List.set_cons_succ])
    refine mv_done ?_
    go_wp2_with fail
    have j1 := hF3.out.c1
    have c3 := hH3.out.c 3 _ rfl
    have c6 := hH3.out.c 6 _ rfl
    refine region_moves (fun u => u.cell? ⟨s2, 1, none⟩ = some (.int .i64 f1) ∧ u.cell? ⟨m, 3, none⟩ = some (.int .i64 s) ∧ u.cell? ⟨m, 6, none⟩ = some (.bool true)) [] [(.free, 0), (.free, 1), (.free, 2), (.take, 3), (.free, 4), (.free, 5), (.free, 6), (.free, 7), (.free, 8), (.take, 9), (.free, 10), (.free, 11), (.free, 12), (.take, 13), (.free, 14), (.free, 15)] _ (by kernel_rfl) (by kernel_rfl) (by kernel_rfl) (by kernel_rfl) (by decide) rfl (fun _ _ _ _ _ h => h) ?_
    simp only [List.filterMap_cons, List.filterMap_nil, List.getElem?_toArray, List.getElem?_cons_zero, List.getElem?_cons_succ, Option.map_some]
    iterate 3
      first
        | (refine mv_free ?_ (Or.inl ⟨by rfl, ?_⟩) (⟨j1, c3, c6⟩) ?_
           rotate_left 1
           · intro u
             go_simp
             try simp only [d1]
             try simp only [d2]
             try simp only [d3]
             try simp only [d5]
             try with_reducible rfl
           simp only [Act.put, List.setIfInBounds_toArray, List.set_cons_zero, List.set_cons_succ])
        | (refine mv_free _ (Or.inr ⟨by rfl, rfl⟩) (⟨j1, c3, c6⟩) ?_
           simp only [Act.put, List.setIfInBounds_toArray, List.set_cons_zero, List.set_cons_succ])
    iterate 1
      first
        | (refine mv_take ?_ (Or.inl ⟨by rfl, ?_⟩) (⟨j1, c3, c6⟩) ?_
           rotate_left 1
           · intro u hu
             (try dsimp only at hu)
             go_simp
             try with_reducible rfl
           simp only [Act.put, List.setIfInBounds_toArray, List.set_cons_zero, List.set_cons_succ])
        | (refine mv_take _ (Or.inr ⟨by rfl, rfl⟩) (⟨j1, c3, c6⟩) ?_
           simp only [Act.put, List.setIfInBounds_toArray, List.set_cons_zero, List.set_cons_succ])
    iterate 5
      first
        | (refine mv_free ?_ (Or.inl ⟨by rfl, ?_⟩) (⟨j1, c3, c6⟩) ?_
           rotate_left 1
           · intro u
             go_simp
             try simp only [d1]
             try simp only [d2]
             try simp only [d3]
             try simp only [d5]
             try with_reducible rfl
           simp only [Act.put, List.setIfInBounds_toArray, List.set_cons_zero, List.set_cons_succ])
        | (refine mv_free _ (Or.inr ⟨by rfl, rfl⟩) (⟨j1, c3, c6⟩) ?_
           simp only [Act.put, List.setIfInBounds_toArray, List.set_cons_zero, List.set_cons_succ])
    iterate 1
      first
        | (refine mv_take ?_ (Or.inl ⟨by rfl, ?_⟩) (⟨j1, c3, c6⟩) ?_
           rotate_left 1
           · intro u hu
             (try dsimp only at hu)
             go_simp
             try with_reducible rfl
           simp only [Act.put, List.setIfInBounds_toArray, List.set_cons_zero, List.set_cons_succ])
        | (refine mv_take _ (Or.inr ⟨by rfl, rfl⟩) (⟨j1, c3, c6⟩) ?_
           simp only [Act.put, List.setIfInBounds_toArray, List.set_cons_zero, List.set_cons_succ])
    iterate 3
      first
        | (refine mv_free ?_ (Or.inl ⟨by rfl, ?_⟩) (⟨j1, c3, c6⟩) ?_
           rotate_left 1
           · intro u
             go_simp
             try simp only [d1]
             try simp only [d2]
             try simp only [d3]
             try simp only [d5]
             try with_reducible rfl
           simp only [Act.put, List.setIfInBounds_toArray, List.set_cons_zero, List.set_cons_succ])
        | (refine mv_free _ (Or.inr ⟨by rfl, rfl⟩) (⟨j1, c3, c6⟩) ?_
           simp only [Act.put, List.setIfInBounds_toArray, List.set_cons_zero, List.set_cons_succ])
    iterate 1
      first
        | (refine mv_take ?_ (Or.inl ⟨by rfl, ?_⟩) (⟨j1, c3, c6⟩) ?_
           rotate_left 1
           · intro u hu
             (try dsimp only at hu)
             go_simp
             try with_reducible rfl
           simp only [Act.put, List.setIfInBounds_toArray, List.set_cons_zero, List.set_cons_succ])
        | (refine mv_take _ (Or.inr ⟨by rfl, rfl⟩) (⟨j1, c3, c6⟩) ?_
           simp only [Act.put, List.setIfInBounds_toArray, List.set_cons_zero, List.set_cons_succ])
    iterate 2
      first
        | (refine mv_free ?_ (Or.inl ⟨by rfl, ?_⟩) (⟨j1, c3, c6⟩) ?_
           rotate_left 1
           · intro u
             go_simp
             try simp only [d1]
             try simp only [d2]
             try simp only [d3]
             try simp only [d5]
             try with_reducible rfl
           simp only [Act.put, List.setIfInBounds_toArray, List.set_cons_zero, List.set_cons_succ])
        | (refine mv_free _ (Or.inr ⟨by rfl, rfl⟩) (⟨j1, c3, c6⟩) ?_
           simp only [Act.put, List.setIfInBounds_toArray, List.set_cons_zero, List.set_cons_succ])
    refine mv_done ?_
    clear j0 c0 j1 c3 c6
    replace hN3 := Lib.hid hN3.out.drew.drew
    replace hF3 := Lib.hid hF3.out.drew.drew
    replace hH3 := Lib.hid hH3.out.drew.drew
    replace bs3 := Lib.hid bs3.out.drew.drew
    generalize V2.drew.drew = V3 at *
    clear eV2
    obtain ⟨U5, eU5, hH5, hO5⟩ := hH3.out.rlast f0 f1 f2 f3
    have hN5 := Lib.hid (hN3.out.only hO5 (by have := hlt.out; omega))
    have hF5 := Lib.hid (hF3.out.only hO5 (by have := hs2.out; omega))
    have bs5 := Lib.hid (bs3.out.trans (.of_only hO5))
    replace hH5 := Lib.hid hH5
    replace eU5 := Lib.hid eU5
    obtain ⟨j0, j1, j2, j3, -, -, -, -, -⟩ := hF3.out
    have hO := hH3.out
    obtain ⟨c0, g0⟩ := hO.one 0 rfl
    obtain ⟨c1, g1⟩ := hO.one 1 rfl
    obtain ⟨c2, g2⟩ := hO.one 2 rfl
    obtain ⟨c3, g3⟩ := hO.one 3 rfl
    obtain ⟨c4, g4⟩ := hO.one 4 rfl
    obtain ⟨c5, g5⟩ := hO.one 5 rfl
    obtain ⟨c6, g6⟩ := hO.one 6 rfl
    obtain ⟨c7, g7⟩ := hO.one 7 rfl
    obtain ⟨c8, g8⟩ := hO.one 8 rfl
    clear hO
    go_upto_region 13 with (fail)
    rw [← eU5.out]
    clear c0 g0 c1 g1 c2 g2 c3 g3 c4 g4 c5 g5 c6 g6 c7 g7 c8 g8 j0 j1 j2 j3 hN3 hH3 bs3 hF3 hO5
    have r1 : IntKind.i64.wrap (ta + 1) = ta + 1 := by rw [IntKind.wrap_i64]; omega
    obtain ⟨U, eU, hH7, hO7⟩ := hH5.out.rtak
    have hN7 := Lib.hid (hN5.out.only hO7 (by have := hlt.out; omega))
    have hF7 := hF5.out.only hO7 (by have := hs2.out; omega)
    have bs7 := Lib.hid (bs5.out.trans (.of_only hO7))
    have c7 := hH5.out.c 7 _ rfl
    have g7 := hH5.out.f 7 (by simp [rlC])
    have c1 := hH5.out.c 1 _ rfl
    have g1 := hH5.out.f 1 (by simp [rlC])
    replace hH7 := Lib.hid hH7
    replace eU := Lib.hid eU
    replace hF7 := Lib.hid hF7
    clear hN5 hH5 bs5 hO7 hF5
    go_upto_region 18 with (fail)
    rw [← eU.out]
    clear c7 g7 c1 g1
    obtain ⟨j0, j1, j2, j3, -, -, -, -, -⟩ := hF7.out
    obtain ⟨u9, e9, hF8, hb9⟩ := (hN7.out).laid f0 f1 f2 f3
    have z0 := hF8.c0
    have z1 := hF8.c1
    have z2 := hF8.c2
    have z3 := hF8.c3
    rw [e9] at z0 z1 z2 z3
    have hR := Lib.hid (hH7.out.below hb9 hlt.out)
    have hBs := Lib.hid (bs7.out.last hb9)
    rw [e9] at hR hBs
    clear e9 hF8 hb9
    obtain ⟨q0, q1, q2, q3, p0, p1, p2, p3, -⟩ := hN7.out
    go_wp2
    refine bodyPost_ret (v := .tuple #[.agg #[.int .i64 f0, .int .i64 f1, .int .i64 f2, .int .i64 f3], .int .i64 0]) (by simp [results, Try.results34, go_sem, z0, z1, z2, z3]) rfl ?_
    exact ⟨rfl, hR.out, hBs.out⟩
  · obtain ⟨U1, eU1, hH1, hO1⟩ := hH0.rage2 (show 1000000 ≤ ag ∧ ag ≤ 1000000 from ⟨hag, ha.2⟩)
    have hr1 := Lib.hid ((hr.below hb0).only hO1 hne)
    have hN1 := Lib.hid (hN0.only hO1 (by omega))
    have bs1 := Lib.hid ((Beside.of_below (b := m) hb0).trans (.of_only hO1))
    replace hlt := Lib.hid hlt
    clear hr hne hpos
    replace eV0 := Lib.hid eV0
    replace eU1 := Lib.hid eU1
    have c1 := hH0.c 1 _ rfl
    have g1 := hH0.f 1 (by simp [rlC])
    replace hH1 := Lib.hid hH1
    clear hN0 hz0 h hb0 hO1 hH0 ha
    go_enter Try.func34, Try.ntmps34
    go_upto_region 1 with (fail)
    rw [← eV0.out]
    go_upto_region 3 with (fail)
    rw [← eU1.out]
    clear c1 g1
    go_wp2_with fail
    refine (FT.out _ hr1.out).mono ?_
    rintro e w2 ⟨rfl, hb2⟩
    have hN2 := hN1.out.keep hb2
    have hH2 := hH1.out.bel hb2
    have bs2 := bs1.out.trans (.of_below hb2)
    have hlt2 := hH2.lt
    clear hr1 hN1 hH1 bs1 eU1
    go_upto_region 6 with (fail)
    obtain ⟨V2, eV2, hm2, hF2, hz2⟩ := f4_alloc w2 f0 f1 f2 f3
    rw [← eV2]
    replace eV2 := Lib.hid eV2
    have hN3 := Lib.hid (hN2.keep hm2)
    have hH3 := Lib.hid (hH2.bel hm2)
    have bs3 := Lib.hid (bs2.trans (.of_below hm2))
    obtain ⟨s2, es2⟩ : ∃ x, x = w2.heap.size := ⟨_, rfl⟩
    rw [← es2] at hF2 ⊢
    have hs2 := Lib.hid (show m < s2 from by omega)
    replace es2 := Lib.hid es2
    have hF3 := Lib.hid hF2
    clear hN2 hH2 bs2 hm2 hz2 hF2 hb2 hlt2
    have j0 := hF3.out.c0
    have c0 := hH3.out.c 0 _ rfl
    refine region_moves (fun u => u.cell? ⟨s2, 0, none⟩ = some (.int .i64 f0) ∧ u.cell? ⟨m, 0, none⟩ = some (.int .i64 f0)) [] [(.free, 0), (.free, 1), (.free, 2), (.free, 3), (.take, 4), (.free, 5), (.free, 6), (.free, 7), (.take, 8), (.free, 9), (.free, 10)] _ (by kernel_rfl) (by kernel_rfl) (by kernel_rfl) (by kernel_rfl) (by decide) rfl (fun _ _ _ _ _ h => h) ?_
    simp only [List.filterMap_cons, List.filterMap_nil, List.getElem?_toArray, List.getElem?_cons_zero, List.getElem?_cons_succ, Option.map_some]
    iterate 4
      first
        | (refine mv_free ?_ (Or.inl ⟨by rfl, ?_⟩) (⟨j0, c0⟩) ?_
           rotate_left 1
           · intro u
             go_simp
             try simp only [d1]
             try simp only [d2]
             try simp only [d3]
             try simp only [d5]
             try with_reducible rfl
           simp only [Act.put, List.setIfInBounds_toArray, List.set_cons_zero, List.set_cons_succ])
        | (refine mv_free _ (Or.inr ⟨by rfl, rfl⟩) (⟨j0, c0⟩) ?_
           simp only [Act.put, List.setIfInBounds_toArray, List.set_cons_zero, List.set_cons_succ])
    iterate 1
      first
        | (refine mv_take ?_ (Or.inl ⟨by rfl, ?_⟩) (⟨j0, c0⟩) ?_
           rotate_left 1
           · intro u hu
             (try dsimp only at hu)
             go_simp
             try with_reducible rfl
           simp only [Act.put, List.setIfInBounds_toArray, List.set_cons_zero, List.set_cons_succ])
        | (refine mv_take _ (Or.inr ⟨by rfl, rfl⟩) (⟨j0, c0⟩) ?_
           simp only [Act.put, List.setIfInBounds_toArray, List.set_cons_zero, List.set_cons_succ])
    iterate 3
      first
        | (refine mv_free ?_ (Or.inl ⟨by rfl, ?_⟩) (⟨j0, c0⟩) ?_
           rotate_left 1
           · intro u
             go_simp
             try simp only [d1]
             try simp only [d2]
             try simp only [d3]
             try simp only [d5]
             try with_reducible rfl
           simp only [Act.put, List.setIfInBounds_toArray, List.set_cons_zero, List.set_cons_succ])
        | (refine mv_free _ (Or.inr ⟨by rfl, rfl⟩) (⟨j0, c0⟩) ?_
           simp only [Act.put, List.setIfInBounds_toArray, List.set_cons_zero, List.set_cons_succ])
    iterate 1
      first
        | (refine mv_take ?_ (Or.inl ⟨by rfl, ?_⟩) (⟨j0, c0⟩) ?_
           rotate_left 1
           · intro u hu
             (try dsimp only at hu)
             go_simp
             try with_reducible rfl
           simp only [Act.put, List.setIfInBounds_toArray, List.set_cons_zero, List.set_cons_succ])
        | (refine mv_take _ (Or.inr ⟨by rfl, rfl⟩) (⟨j0, c0⟩) ?_
           simp only [Act.put, List.setIfInBounds_toArray, List.set_cons_zero, List.set_cons_succ])
    iterate 2
      first
        | (refine mv_free ?_ (Or.inl ⟨by rfl, ?_⟩) (⟨j0, c0⟩) ?_
           rotate_left 1
           · intro u
             go_simp
             try simp only [d1]
             try simp only [d2]
             try simp only [d3]
             try simp only [d5]
             try with_reducible rfl
           simp only [Act.put, List.setIfInBounds_toArray, List.set_cons_zero, List.set_cons_succ])
        | (refine mv_free _ (Or.inr ⟨by rfl, rfl⟩) (⟨j0, c0⟩) ?_
           simp only [Act.put, List.setIfInBounds_toArray, List.set_cons_zero, List.set_cons_succ])
    refine mv_done ?_
    go_wp2_with fail
    have j1 := hF3.out.c1
    have c3 := hH3.out.c 3 _ rfl
    have c6 := hH3.out.c 6 _ rfl
    refine region_moves (fun u => u.cell? ⟨s2, 1, none⟩ = some (.int .i64 f1) ∧ u.cell? ⟨m, 3, none⟩ = some (.int .i64 s) ∧ u.cell? ⟨m, 6, none⟩ = some (.bool true)) [] [(.free, 0), (.free, 1), (.free, 2), (.take, 3), (.free, 4), (.free, 5), (.free, 6), (.free, 7), (.free, 8), (.take, 9), (.free, 10), (.free, 11), (.free, 12), (.take, 13), (.free, 14), (.free, 15)] _ (by kernel_rfl) (by kernel_rfl) (by kernel_rfl) (by kernel_rfl) (by decide) rfl (fun _ _ _ _ _ h => h) ?_
    simp only [List.filterMap_cons, List.filterMap_nil, List.getElem?_toArray, List.getElem?_cons_zero, List.getElem?_cons_succ, Option.map_some]
    iterate 3
      first
        | (refine mv_free ?_ (Or.inl ⟨by rfl, ?_⟩) (⟨j1, c3, c6⟩) ?_
           rotate_left 1
           · intro u
             go_simp
             try simp only [d1]
             try simp only [d2]
             try simp only [d3]
             try simp only [d5]
             try with_reducible rfl
           simp only [Act.put, List.setIfInBounds_toArray, List.set_cons_zero, List.set_cons_succ])
        | (refine mv_free _ (Or.inr ⟨by rfl, rfl⟩) (⟨j1, c3, c6⟩) ?_
           simp only [Act.put, List.setIfInBounds_toArray, List.set_cons_zero, List.set_cons_succ])
    iterate 1
      first
        | (refine mv_take ?_ (Or.inl ⟨by rfl, ?_⟩) (⟨j1, c3, c6⟩) ?_
           rotate_left 1
           · intro u hu
             (try dsimp only at hu)
             go_simp
             try with_reducible rfl
           simp only [Act.put, List.setIfInBounds_toArray, List.set_cons_zero, List.set_cons_succ])
        | (refine mv_take _ (Or.inr ⟨by rfl, rfl⟩) (⟨j1, c3, c6⟩) ?_
           simp only [Act.put, List.setIfInBounds_toArray, List.set_cons_zero, List.set_cons_succ])
    iterate 5
      first
        | (refine mv_free ?_ (Or.inl ⟨by rfl, ?_⟩) (⟨j1, c3, c6⟩) ?_
           rotate_left 1
           · intro u
             go_simp
             try simp only [d1]
             try simp only [d2]
             try simp only [d3]
             try simp only [d5]
             try with_reducible rfl
           simp only [Act.put, List.setIfInBounds_toArray, List.set_cons_zero, List.set_cons_succ])
        | (refine mv_free _ (Or.inr ⟨by rfl, rfl⟩) (⟨j1, c3, c6⟩) ?_
           simp only [Act.put, List.setIfInBounds_toArray, List.set_cons_zero, List.set_cons_succ])
    iterate 1
      first
        | (refine mv_take ?_ (Or.inl ⟨by rfl, ?_⟩) (⟨j1, c3, c6⟩) ?_
           rotate_left 1
           · intro u hu
             (try dsimp only at hu)
             go_simp
             try with_reducible rfl
           simp only [Act.put, List.setIfInBounds_toArray, List.set_cons_zero, List.set_cons_succ])
        | (refine mv_take _ (Or.inr ⟨by rfl, rfl⟩) (⟨j1, c3, c6⟩) ?_
           simp only [Act.put, List.setIfInBounds_toArray, List.set_cons_zero, List.set_cons_succ])
    iterate 3
      first
        | (refine mv_free ?_ (Or.inl ⟨by rfl, ?_⟩) (⟨j1, c3, c6⟩) ?_
           rotate_left 1
           · intro u
             go_simp
             try simp only [d1]
             try simp only [d2]
             try simp only [d3]
             try simp only [d5]
             try with_reducible rfl
           simp only [Act.put, List.setIfInBounds_toArray, List.set_cons_zero, List.set_cons_succ])
        | (refine mv_free _ (Or.inr ⟨by rfl, rfl⟩) (⟨j1, c3, c6⟩) ?_
           simp only [Act.put, List.setIfInBounds_toArray, List.set_cons_zero, List.set_cons_succ])
    iterate 1
      first
        | (refine mv_take ?_ (Or.inl ⟨by rfl, ?_⟩) (⟨j1, c3, c6⟩) ?_
           rotate_left 1
           · intro u hu
             (try dsimp only at hu)
             go_simp
             try with_reducible rfl
           simp only [Act.put, List.setIfInBounds_toArray, List.set_cons_zero, List.set_cons_succ])
        | (refine mv_take _ (Or.inr ⟨by rfl, rfl⟩) (⟨j1, c3, c6⟩) ?_
           simp only [Act.put, List.setIfInBounds_toArray, List.set_cons_zero, List.set_cons_succ])
    iterate 2
      first
        | (refine mv_free ?_ (Or.inl ⟨by rfl, ?_⟩) (⟨j1, c3, c6⟩) ?_
           rotate_left 1
           · intro u
             go_simp
             try simp only [d1]
             try simp only [d2]
             try simp only [d3]
             try simp only [d5]
             try with_reducible rfl
           simp only [Act.put, List.setIfInBounds_toArray, List.set_cons_zero, List.set_cons_succ])
        | (refine mv_free _ (Or.inr ⟨by rfl, rfl⟩) (⟨j1, c3, c6⟩) ?_
           simp only [Act.put, List.setIfInBounds_toArray, List.set_cons_zero, List.set_cons_succ])
    refine mv_done ?_
    clear j0 c0 j1 c3 c6
    replace hN3 := Lib.hid hN3.out.drew.drew
    replace hF3 := Lib.hid hF3.out.drew.drew
    replace hH3 := Lib.hid hH3.out.drew.drew
    replace bs3 := Lib.hid bs3.out.drew.drew
    generalize V2.drew.drew = V3 at *
    clear eV2
    obtain ⟨U5, eU5, hH5, hO5⟩ := hH3.out.rlast f0 f1 f2 f3
    have hN5 := Lib.hid (hN3.out.only hO5 (by have := hlt.out; omega))
    have hF5 := Lib.hid (hF3.out.only hO5 (by have := hs2.out; omega))
    have bs5 := Lib.hid (bs3.out.trans (.of_only hO5))
    replace hH5 := Lib.hid hH5
    replace eU5 := Lib.hid eU5
    obtain ⟨j0, j1, j2, j3, -, -, -, -, -⟩ := hF3.out
    have hO := hH3.out
    obtain ⟨c0, g0⟩ := hO.one 0 rfl
    obtain ⟨c1, g1⟩ := hO.one 1 rfl
    obtain ⟨c2, g2⟩ := hO.one 2 rfl
    obtain ⟨c3, g3⟩ := hO.one 3 rfl
    obtain ⟨c4, g4⟩ := hO.one 4 rfl
    obtain ⟨c5, g5⟩ := hO.one 5 rfl
    obtain ⟨c6, g6⟩ := hO.one 6 rfl
    obtain ⟨c7, g7⟩ := hO.one 7 rfl
    obtain ⟨c8, g8⟩ := hO.one 8 rfl
    clear hO
    go_upto_region 13 with (fail)
    rw [← eU5.out]
    clear c0 g0 c1 g1 c2 g2 c3 g3 c4 g4 c5 g5 c6 g6 c7 g7 c8 g8 j0 j1 j2 j3 hN3 hH3 bs3 hF3 hO5
    have r1 : IntKind.i64.wrap (ta + 1) = ta + 1 := by rw [IntKind.wrap_i64]; omega
    obtain ⟨U, eU, hH7, hO7⟩ := hH5.out.rtak
    have hN7 := Lib.hid (hN5.out.only hO7 (by have := hlt.out; omega))
    have hF7 := hF5.out.only hO7 (by have := hs2.out; omega)
    have bs7 := Lib.hid (bs5.out.trans (.of_only hO7))
    have c7 := hH5.out.c 7 _ rfl
    have g7 := hH5.out.f 7 (by simp [rlC])
    have c1 := hH5.out.c 1 _ rfl
    have g1 := hH5.out.f 1 (by simp [rlC])
    replace hH7 := Lib.hid hH7
    replace eU := Lib.hid eU
    replace hF7 := Lib.hid hF7
    clear hN5 hH5 bs5 hO7 hF5
    go_upto_region 18 with (fail)
    rw [← eU.out]
    clear c7 g7 c1 g1
    obtain ⟨j0, j1, j2, j3, -, -, -, -, -⟩ := hF7.out
    obtain ⟨u9, e9, hF8, hb9⟩ := (hN7.out).laid f0 f1 f2 f3
    have z0 := hF8.c0
    have z1 := hF8.c1
    have z2 := hF8.c2
    have z3 := hF8.c3
    rw [e9] at z0 z1 z2 z3
    have hR := Lib.hid (hH7.out.below hb9 hlt.out)
    have hBs := Lib.hid (bs7.out.last hb9)
    rw [e9] at hR hBs
    clear e9 hF8 hb9
    obtain ⟨q0, q1, q2, q3, p0, p1, p2, p3, -⟩ := hN7.out
    go_wp2
    refine bodyPost_ret (v := .tuple #[.agg #[.int .i64 f0, .int .i64 f1, .int .i64 f2, .int .i64 f3], .int .i64 0]) (by simp [results, Try.results34, go_sem, z0, z1, z2, z3]) rfl ?_
    exact ⟨rfl, hR.out, hBs.out⟩
set_option maxRecDepth 100000 in
set_option maxHeartbeats 8000000 in
theorem rlk_order {id i s v t ag ta re : Int} {kn : Bool} (m : Nat) (l : List Int) (w : World) (h : Held m (rlC id ag i s v t kn ta re) w) (a : Option Addr) (cap : Nat) (hr : RowIs .u8 w a l) (hne : ∀ x, a = some x → x.block ≠ m) (hL : l.length ≤ maxLen) (hB : BYT l) (ha : 0 ≤ ag ∧ ag ≤ 1000000) (hta : 0 ≤ ta ∧ ta ≤ 1000000) (hre : 0 ≤ re ∧ re ≤ 1000000) (hE : tkE l = 0) (hI : tkI l = id) (hK : kn = true) (hS : tkS l ≠ (s + 1) % 256) (s0 : 0 ≤ s ∧ s ≤ 255) : Calls Try.prog 34 #[.pointer (some ⟨m, 0, none⟩), .slice a l.length cap] w fun e w' => e = .returned (.tuple #[.agg #[.int .i64 0, .int .i64 0, .int .i64 0, .int .i64 0], .int .i64 5]) ∧ Held m (rlC id (agN ag) (tkI l) (tkS l) (tkV l) (tkT l) true ta (re + 1)) w' ∧ Beside m w w' := by
  subst hK
  have hpos : 0 < l.length := by have := (tkE_ok hE).1; omega
  have dl : ((l.length : Int) == 0) = false := by simp; intro e; simp [e] at hpos
  have FT := Lib.hid (fun u (k : RowIs .u8 u a l) => rtake a cap l u k hL hB)
  rw [hE] at FT
  generalize tkI l = f0 at *
  generalize tkS l = f1 at *
  generalize tkV l = f2 at *
  generalize tkT l = f3 at *
  subst hI
  have m1 : IntKind.i64.wrap (s + 1) = s + 1 := by rw [IntKind.wrap_i64]; omega
  obtain ⟨sn, hsn⟩ : ∃ x, x = (s + 1) % 256 := ⟨_, rfl⟩
  have m2 : (s + 1).tmod 256 = sn := by rw [Int.tmod_eq_emod_of_nonneg (by omega), hsn]
  rw [← hsn] at hS
  have d8 : (sn != f1) = true := by simp [Ne.symm hS]
  clear hS s0 hsn
  clear hL hB
  obtain ⟨V0, eV0, hb0, hN0, hz0⟩ := f4_alloc w 0 0 0 0
  have hlt := h.lt
  have hH0 := h.bel hb0
  have n1 : IntKind.i64.wrap (ag + 1) = ag + 1 := by rw [IntKind.wrap_i64]; omega
  rcases (show ag < 1000000 ∨ 1000000 ≤ ag by omega) with hag | hag
  · obtain ⟨U1, eU1, hH1, hO1⟩ := hH0.rage (show 0 ≤ ag ∧ ag < 1000000 from ⟨ha.1, hag⟩)
    have hr1 := Lib.hid ((hr.below hb0).only hO1 hne)
    have hN1 := Lib.hid (hN0.only hO1 (by omega))
    have bs1 := Lib.hid ((Beside.of_below (b := m) hb0).trans (.of_only hO1))
    replace hlt := Lib.hid hlt
    clear hr hne hpos
    replace eV0 := Lib.hid eV0
    replace eU1 := Lib.hid eU1
    have c1 := hH0.c 1 _ rfl
    have g1 := hH0.f 1 (by simp [rlC])
    replace hH1 := Lib.hid hH1
    clear hN0 hz0 h hb0 hO1 hH0 ha
    go_enter Try.func34, Try.ntmps34
    go_upto_region 1 with (fail)
    rw [← eV0.out]
    go_upto_region 3 with (fail)
    rw [← eU1.out]
    clear c1 g1
    go_wp2_with fail
    refine (FT.out _ hr1.out).mono ?_
    rintro e w2 ⟨rfl, hb2⟩
    have hN2 := hN1.out.keep hb2
    have hH2 := hH1.out.bel hb2
    have bs2 := bs1.out.trans (.of_below hb2)
    have hlt2 := hH2.lt
    clear hr1 hN1 hH1 bs1 eU1
    go_upto_region 6 with (fail)
    obtain ⟨V2, eV2, hm2, hF2, hz2⟩ := f4_alloc w2 f0 f1 f2 f3
    rw [← eV2]
    replace eV2 := Lib.hid eV2
    have hN3 := Lib.hid (hN2.keep hm2)
    have hH3 := Lib.hid (hH2.bel hm2)
    have bs3 := Lib.hid (bs2.trans (.of_below hm2))
    obtain ⟨s2, es2⟩ : ∃ x, x = w2.heap.size := ⟨_, rfl⟩
    rw [← es2] at hF2 ⊢
    have hs2 := Lib.hid (show m < s2 from by omega)
    replace es2 := Lib.hid es2
    have hF3 := Lib.hid hF2
    clear hN2 hH2 bs2 hm2 hz2 hF2 hb2 hlt2
    have j0 := hF3.out.c0
    have c0 := hH3.out.c 0 _ rfl
    refine region_moves (fun u => u.cell? ⟨s2, 0, none⟩ = some (.int .i64 f0) ∧ u.cell? ⟨m, 0, none⟩ = some (.int .i64 f0)) [] [(.free, 0), (.free, 1), (.free, 2), (.free, 3), (.take, 4), (.free, 5), (.free, 6), (.free, 7), (.take, 8), (.free, 9), (.free, 10)] _ (by kernel_rfl) (by kernel_rfl) (by kernel_rfl) (by kernel_rfl) (by decide) rfl (fun _ _ _ _ _ h => h) ?_
    simp only [List.filterMap_cons, List.filterMap_nil, List.getElem?_toArray, List.getElem?_cons_zero, List.getElem?_cons_succ, Option.map_some]
    iterate 4
      first
        | (refine mv_free ?_ (Or.inl ⟨by rfl, ?_⟩) (⟨j0, c0⟩) ?_
           rotate_left 1
           · intro u
             go_simp
             try simp only [d1]
             try simp only [d2]
             try simp only [d3]
             try simp only [d5]
             try with_reducible rfl
           simp only [Act.put, List.setIfInBounds_toArray, List.set_cons_zero, List.set_cons_succ])
        | (refine mv_free _ (Or.inr ⟨by rfl, rfl⟩) (⟨j0, c0⟩) ?_
           simp only [Act.put, List.setIfInBounds_toArray, List.set_cons_zero, List.set_cons_succ])
    iterate 1
      first
        | (refine mv_take ?_ (Or.inl ⟨by rfl, ?_⟩) (⟨j0, c0⟩) ?_
           rotate_left 1
           · intro u hu
             (try dsimp only at hu)
             go_simp
             try with_reducible rfl
           simp only [Act.put, List.setIfInBounds_toArray, List.set_cons_zero, List.set_cons_succ])
        | (refine mv_take _ (Or.inr ⟨by rfl, rfl⟩) (⟨j0, c0⟩) ?_
           simp only [Act.put, List.setIfInBounds_toArray, List.set_cons_zero, List.set_cons_succ])
    iterate 3
      first
        | (refine mv_free ?_ (Or.inl ⟨by rfl, ?_⟩) (⟨j0, c0⟩) ?_
           rotate_left 1
           · intro u
             go_simp
             try simp only [d1]
             try simp only [d2]
             try simp only [d3]
             try simp only [d5]
             try with_reducible rfl
           simp only [Act.put, List.setIfInBounds_toArray, List.set_cons_zero, List.set_cons_succ])
        | (refine mv_free _ (Or.inr ⟨by rfl, rfl⟩) (⟨j0, c0⟩) ?_
           simp only [Act.put, List.setIfInBounds_toArray, List.set_cons_zero, List.set_cons_succ])
    iterate 1
      first
        | (refine mv_take ?_ (Or.inl ⟨by rfl, ?_⟩) (⟨j0, c0⟩) ?_
           rotate_left 1
           · intro u hu
             (try dsimp only at hu)
             go_simp
             try with_reducible rfl
           simp only [Act.put, List.setIfInBounds_toArray, List.set_cons_zero, List.set_cons_succ])
        | (refine mv_take _ (Or.inr ⟨by rfl, rfl⟩) (⟨j0, c0⟩) ?_
           simp only [Act.put, List.setIfInBounds_toArray, List.set_cons_zero, List.set_cons_succ])
    iterate 2
      first
        | (refine mv_free ?_ (Or.inl ⟨by rfl, ?_⟩) (⟨j0, c0⟩) ?_
           rotate_left 1
           · intro u
             go_simp
             try simp only [d1]
             try simp only [d2]
             try simp only [d3]
             try simp only [d5]
             try with_reducible rfl
           simp only [Act.put, List.setIfInBounds_toArray, List.set_cons_zero, List.set_cons_succ])
        | (refine mv_free _ (Or.inr ⟨by rfl, rfl⟩) (⟨j0, c0⟩) ?_
           simp only [Act.put, List.setIfInBounds_toArray, List.set_cons_zero, List.set_cons_succ])
    refine mv_done ?_
    go_wp2_with fail
    have j1 := hF3.out.c1
    have c3 := hH3.out.c 3 _ rfl
    have c6 := hH3.out.c 6 _ rfl
    refine region_moves (fun u => u.cell? ⟨s2, 1, none⟩ = some (.int .i64 f1) ∧ u.cell? ⟨m, 3, none⟩ = some (.int .i64 s) ∧ u.cell? ⟨m, 6, none⟩ = some (.bool true)) [] [(.free, 0), (.free, 1), (.free, 2), (.take, 3), (.free, 4), (.free, 5), (.free, 6), (.free, 7), (.free, 8), (.take, 9), (.free, 10), (.free, 11), (.free, 12), (.take, 13), (.free, 14), (.free, 15)] _ (by kernel_rfl) (by kernel_rfl) (by kernel_rfl) (by kernel_rfl) (by decide) rfl (fun _ _ _ _ _ h => h) ?_
    simp only [List.filterMap_cons, List.filterMap_nil, List.getElem?_toArray, List.getElem?_cons_zero, List.getElem?_cons_succ, Option.map_some]
    iterate 3
      first
        | (refine mv_free ?_ (Or.inl ⟨by rfl, ?_⟩) (⟨j1, c3, c6⟩) ?_
           rotate_left 1
           · intro u
             go_simp
             try simp only [d1]
             try simp only [d2]
             try simp only [d3]
             try simp only [d5]
             try with_reducible rfl
           simp only [Act.put, List.setIfInBounds_toArray, List.set_cons_zero, List.set_cons_succ])
        | (refine mv_free _ (Or.inr ⟨by rfl, rfl⟩) (⟨j1, c3, c6⟩) ?_
           simp only [Act.put, List.setIfInBounds_toArray, List.set_cons_zero, List.set_cons_succ])
    iterate 1
      first
        | (refine mv_take ?_ (Or.inl ⟨by rfl, ?_⟩) (⟨j1, c3, c6⟩) ?_
           rotate_left 1
           · intro u hu
             (try dsimp only at hu)
             go_simp
             try with_reducible rfl
           simp only [Act.put, List.setIfInBounds_toArray, List.set_cons_zero, List.set_cons_succ])
        | (refine mv_take _ (Or.inr ⟨by rfl, rfl⟩) (⟨j1, c3, c6⟩) ?_
           simp only [Act.put, List.setIfInBounds_toArray, List.set_cons_zero, List.set_cons_succ])
    iterate 5
      first
        | (refine mv_free ?_ (Or.inl ⟨by rfl, ?_⟩) (⟨j1, c3, c6⟩) ?_
           rotate_left 1
           · intro u
             go_simp
             try simp only [d1]
             try simp only [d2]
             try simp only [d3]
             try simp only [d5]
             try with_reducible rfl
           simp only [Act.put, List.setIfInBounds_toArray, List.set_cons_zero, List.set_cons_succ])
        | (refine mv_free _ (Or.inr ⟨by rfl, rfl⟩) (⟨j1, c3, c6⟩) ?_
           simp only [Act.put, List.setIfInBounds_toArray, List.set_cons_zero, List.set_cons_succ])
    iterate 1
      first
        | (refine mv_take ?_ (Or.inl ⟨by rfl, ?_⟩) (⟨j1, c3, c6⟩) ?_
           rotate_left 1
           · intro u hu
             (try dsimp only at hu)
             go_simp
             try with_reducible rfl
           simp only [Act.put, List.setIfInBounds_toArray, List.set_cons_zero, List.set_cons_succ])
        | (refine mv_take _ (Or.inr ⟨by rfl, rfl⟩) (⟨j1, c3, c6⟩) ?_
           simp only [Act.put, List.setIfInBounds_toArray, List.set_cons_zero, List.set_cons_succ])
    iterate 3
      first
        | (refine mv_free ?_ (Or.inl ⟨by rfl, ?_⟩) (⟨j1, c3, c6⟩) ?_
           rotate_left 1
           · intro u
             go_simp
             try simp only [d1]
             try simp only [d2]
             try simp only [d3]
             try simp only [d5]
             try with_reducible rfl
           simp only [Act.put, List.setIfInBounds_toArray, List.set_cons_zero, List.set_cons_succ])
        | (refine mv_free _ (Or.inr ⟨by rfl, rfl⟩) (⟨j1, c3, c6⟩) ?_
           simp only [Act.put, List.setIfInBounds_toArray, List.set_cons_zero, List.set_cons_succ])
    iterate 1
      first
        | (refine mv_take ?_ (Or.inl ⟨by rfl, ?_⟩) (⟨j1, c3, c6⟩) ?_
           rotate_left 1
           · intro u hu
             (try dsimp only at hu)
             go_simp
             try with_reducible rfl
           simp only [Act.put, List.setIfInBounds_toArray, List.set_cons_zero, List.set_cons_succ])
        | (refine mv_take _ (Or.inr ⟨by rfl, rfl⟩) (⟨j1, c3, c6⟩) ?_
           simp only [Act.put, List.setIfInBounds_toArray, List.set_cons_zero, List.set_cons_succ])
    iterate 2
      first
        | (refine mv_free ?_ (Or.inl ⟨by rfl, ?_⟩) (⟨j1, c3, c6⟩) ?_
           rotate_left 1
           · intro u
             go_simp
             try simp only [d1]
             try simp only [d2]
             try simp only [d3]
             try simp only [d5]
             try with_reducible rfl
           simp only [Act.put, List.setIfInBounds_toArray, List.set_cons_zero, List.set_cons_succ])
        | (refine mv_free _ (Or.inr ⟨by rfl, rfl⟩) (⟨j1, c3, c6⟩) ?_
           simp only [Act.put, List.setIfInBounds_toArray, List.set_cons_zero, List.set_cons_succ])
    refine mv_done ?_
    clear j0 c0 j1 c3 c6
    replace hN3 := Lib.hid hN3.out.drew.drew
    replace hF3 := Lib.hid hF3.out.drew.drew
    replace hH3 := Lib.hid hH3.out.drew.drew
    replace bs3 := Lib.hid bs3.out.drew.drew
    generalize V2.drew.drew = V3 at *
    clear eV2
    obtain ⟨U5, eU5, hH5, hO5⟩ := hH3.out.rlast f0 f1 f2 f3
    have hN5 := Lib.hid (hN3.out.only hO5 (by have := hlt.out; omega))
    have hF5 := Lib.hid (hF3.out.only hO5 (by have := hs2.out; omega))
    have bs5 := Lib.hid (bs3.out.trans (.of_only hO5))
    replace hH5 := Lib.hid hH5
    replace eU5 := Lib.hid eU5
    obtain ⟨j0, j1, j2, j3, -, -, -, -, -⟩ := hF3.out
    have hO := hH3.out
    obtain ⟨c0, g0⟩ := hO.one 0 rfl
    obtain ⟨c1, g1⟩ := hO.one 1 rfl
    obtain ⟨c2, g2⟩ := hO.one 2 rfl
    obtain ⟨c3, g3⟩ := hO.one 3 rfl
    obtain ⟨c4, g4⟩ := hO.one 4 rfl
    obtain ⟨c5, g5⟩ := hO.one 5 rfl
    obtain ⟨c6, g6⟩ := hO.one 6 rfl
    obtain ⟨c7, g7⟩ := hO.one 7 rfl
    obtain ⟨c8, g8⟩ := hO.one 8 rfl
    clear hO
    go_upto_region 13 with (fail)
    rw [← eU5.out]
    clear c0 g0 c1 g1 c2 g2 c3 g3 c4 g4 c5 g5 c6 g6 c7 g7 c8 g8 j0 j1 j2 j3 hN3 hH3 bs3 hF3 hO5
    have r1 : IntKind.i64.wrap (re + 1) = re + 1 := by rw [IntKind.wrap_i64]; omega
    obtain ⟨U, eU, hH7, hO7⟩ := hH5.out.rref
    have hN7 := Lib.hid (hN5.out.only hO7 (by have := hlt.out; omega))
    have bs7 := Lib.hid (bs5.out.trans (.of_only hO7))
    have c8 := hH5.out.c 8 _ rfl
    have g8 := hH5.out.f 8 (by simp [rlC])
    replace hH7 := Lib.hid hH7
    replace eU := Lib.hid eU
    clear hN5 hH5 bs5 hO7 hF5
    go_upto_region 15 with (fail)
    rw [← eU.out]
    clear c8 g8
    obtain ⟨u9, e9, hF8, hb9⟩ := (hN7.out).laid 0 0 0 0
    have z0 := hF8.c0
    have z1 := hF8.c1
    have z2 := hF8.c2
    have z3 := hF8.c3
    rw [e9] at z0 z1 z2 z3
    have hR := Lib.hid (hH7.out.below hb9 hlt.out)
    have hBs := Lib.hid (bs7.out.last hb9)
    rw [e9] at hR hBs
    clear e9 hF8 hb9
    obtain ⟨q0, q1, q2, q3, p0, p1, p2, p3, -⟩ := hN7.out
    go_wp2
    refine bodyPost_ret (v := .tuple #[.agg #[.int .i64 0, .int .i64 0, .int .i64 0, .int .i64 0], .int .i64 5]) (by simp [results, Try.results34, go_sem, z0, z1, z2, z3]) rfl ?_
    exact ⟨rfl, hR.out, hBs.out⟩
  · obtain ⟨U1, eU1, hH1, hO1⟩ := hH0.rage2 (show 1000000 ≤ ag ∧ ag ≤ 1000000 from ⟨hag, ha.2⟩)
    have hr1 := Lib.hid ((hr.below hb0).only hO1 hne)
    have hN1 := Lib.hid (hN0.only hO1 (by omega))
    have bs1 := Lib.hid ((Beside.of_below (b := m) hb0).trans (.of_only hO1))
    replace hlt := Lib.hid hlt
    clear hr hne hpos
    replace eV0 := Lib.hid eV0
    replace eU1 := Lib.hid eU1
    have c1 := hH0.c 1 _ rfl
    have g1 := hH0.f 1 (by simp [rlC])
    replace hH1 := Lib.hid hH1
    clear hN0 hz0 h hb0 hO1 hH0 ha
    go_enter Try.func34, Try.ntmps34
    go_upto_region 1 with (fail)
    rw [← eV0.out]
    go_upto_region 3 with (fail)
    rw [← eU1.out]
    clear c1 g1
    go_wp2_with fail
    refine (FT.out _ hr1.out).mono ?_
    rintro e w2 ⟨rfl, hb2⟩
    have hN2 := hN1.out.keep hb2
    have hH2 := hH1.out.bel hb2
    have bs2 := bs1.out.trans (.of_below hb2)
    have hlt2 := hH2.lt
    clear hr1 hN1 hH1 bs1 eU1
    go_upto_region 6 with (fail)
    obtain ⟨V2, eV2, hm2, hF2, hz2⟩ := f4_alloc w2 f0 f1 f2 f3
    rw [← eV2]
    replace eV2 := Lib.hid eV2
    have hN3 := Lib.hid (hN2.keep hm2)
    have hH3 := Lib.hid (hH2.bel hm2)
    have bs3 := Lib.hid (bs2.trans (.of_below hm2))
    obtain ⟨s2, es2⟩ : ∃ x, x = w2.heap.size := ⟨_, rfl⟩
    rw [← es2] at hF2 ⊢
    have hs2 := Lib.hid (show m < s2 from by omega)
    replace es2 := Lib.hid es2
    have hF3 := Lib.hid hF2
    clear hN2 hH2 bs2 hm2 hz2 hF2 hb2 hlt2
    have j0 := hF3.out.c0
    have c0 := hH3.out.c 0 _ rfl
    refine region_moves (fun u => u.cell? ⟨s2, 0, none⟩ = some (.int .i64 f0) ∧ u.cell? ⟨m, 0, none⟩ = some (.int .i64 f0)) [] [(.free, 0), (.free, 1), (.free, 2), (.free, 3), (.take, 4), (.free, 5), (.free, 6), (.free, 7), (.take, 8), (.free, 9), (.free, 10)] _ (by kernel_rfl) (by kernel_rfl) (by kernel_rfl) (by kernel_rfl) (by decide) rfl (fun _ _ _ _ _ h => h) ?_
    simp only [List.filterMap_cons, List.filterMap_nil, List.getElem?_toArray, List.getElem?_cons_zero, List.getElem?_cons_succ, Option.map_some]
    iterate 4
      first
        | (refine mv_free ?_ (Or.inl ⟨by rfl, ?_⟩) (⟨j0, c0⟩) ?_
           rotate_left 1
           · intro u
             go_simp
             try simp only [d1]
             try simp only [d2]
             try simp only [d3]
             try simp only [d5]
             try with_reducible rfl
           simp only [Act.put, List.setIfInBounds_toArray, List.set_cons_zero, List.set_cons_succ])
        | (refine mv_free _ (Or.inr ⟨by rfl, rfl⟩) (⟨j0, c0⟩) ?_
           simp only [Act.put, List.setIfInBounds_toArray, List.set_cons_zero, List.set_cons_succ])
    iterate 1
      first
        | (refine mv_take ?_ (Or.inl ⟨by rfl, ?_⟩) (⟨j0, c0⟩) ?_
           rotate_left 1
           · intro u hu
             (try dsimp only at hu)
             go_simp
             try with_reducible rfl
           simp only [Act.put, List.setIfInBounds_toArray, List.set_cons_zero, List.set_cons_succ])
        | (refine mv_take _ (Or.inr ⟨by rfl, rfl⟩) (⟨j0, c0⟩) ?_
           simp only [Act.put, List.setIfInBounds_toArray, List.set_cons_zero, List.set_cons_succ])
    iterate 3
      first
        | (refine mv_free ?_ (Or.inl ⟨by rfl, ?_⟩) (⟨j0, c0⟩) ?_
           rotate_left 1
           · intro u
             go_simp
             try simp only [d1]
             try simp only [d2]
             try simp only [d3]
             try simp only [d5]
             try with_reducible rfl
           simp only [Act.put, List.setIfInBounds_toArray, List.set_cons_zero, List.set_cons_succ])
        | (refine mv_free _ (Or.inr ⟨by rfl, rfl⟩) (⟨j0, c0⟩) ?_
           simp only [Act.put, List.setIfInBounds_toArray, List.set_cons_zero, List.set_cons_succ])
    iterate 1
      first
        | (refine mv_take ?_ (Or.inl ⟨by rfl, ?_⟩) (⟨j0, c0⟩) ?_
           rotate_left 1
           · intro u hu
             (try dsimp only at hu)
             go_simp
             try with_reducible rfl
           simp only [Act.put, List.setIfInBounds_toArray, List.set_cons_zero, List.set_cons_succ])
        | (refine mv_take _ (Or.inr ⟨by rfl, rfl⟩) (⟨j0, c0⟩) ?_
           simp only [Act.put, List.setIfInBounds_toArray, List.set_cons_zero, List.set_cons_succ])
    iterate 2
      first
        | (refine mv_free ?_ (Or.inl ⟨by rfl, ?_⟩) (⟨j0, c0⟩) ?_
           rotate_left 1
           · intro u
             go_simp
             try simp only [d1]
             try simp only [d2]
             try simp only [d3]
             try simp only [d5]
             try with_reducible rfl
           simp only [Act.put, List.setIfInBounds_toArray, List.set_cons_zero, List.set_cons_succ])
        | (refine mv_free _ (Or.inr ⟨by rfl, rfl⟩) (⟨j0, c0⟩) ?_
           simp only [Act.put, List.setIfInBounds_toArray, List.set_cons_zero, List.set_cons_succ])
    refine mv_done ?_
    go_wp2_with fail
    have j1 := hF3.out.c1
    have c3 := hH3.out.c 3 _ rfl
    have c6 := hH3.out.c 6 _ rfl
    refine region_moves (fun u => u.cell? ⟨s2, 1, none⟩ = some (.int .i64 f1) ∧ u.cell? ⟨m, 3, none⟩ = some (.int .i64 s) ∧ u.cell? ⟨m, 6, none⟩ = some (.bool true)) [] [(.free, 0), (.free, 1), (.free, 2), (.take, 3), (.free, 4), (.free, 5), (.free, 6), (.free, 7), (.free, 8), (.take, 9), (.free, 10), (.free, 11), (.free, 12), (.take, 13), (.free, 14), (.free, 15)] _ (by kernel_rfl) (by kernel_rfl) (by kernel_rfl) (by kernel_rfl) (by decide) rfl (fun _ _ _ _ _ h => h) ?_
    simp only [List.filterMap_cons, List.filterMap_nil, List.getElem?_toArray, List.getElem?_cons_zero, List.getElem?_cons_succ, Option.map_some]
    iterate 3
      first
        | (refine mv_free ?_ (Or.inl ⟨by rfl, ?_⟩) (⟨j1, c3, c6⟩) ?_
           rotate_left 1
           · intro u
             go_simp
             try simp only [d1]
             try simp only [d2]
             try simp only [d3]
             try simp only [d5]
             try with_reducible rfl
           simp only [Act.put, List.setIfInBounds_toArray, List.set_cons_zero, List.set_cons_succ])
        | (refine mv_free _ (Or.inr ⟨by rfl, rfl⟩) (⟨j1, c3, c6⟩) ?_
           simp only [Act.put, List.setIfInBounds_toArray, List.set_cons_zero, List.set_cons_succ])
    iterate 1
      first
        | (refine mv_take ?_ (Or.inl ⟨by rfl, ?_⟩) (⟨j1, c3, c6⟩) ?_
           rotate_left 1
           · intro u hu
             (try dsimp only at hu)
             go_simp
             try with_reducible rfl
           simp only [Act.put, List.setIfInBounds_toArray, List.set_cons_zero, List.set_cons_succ])
        | (refine mv_take _ (Or.inr ⟨by rfl, rfl⟩) (⟨j1, c3, c6⟩) ?_
           simp only [Act.put, List.setIfInBounds_toArray, List.set_cons_zero, List.set_cons_succ])
    iterate 5
      first
        | (refine mv_free ?_ (Or.inl ⟨by rfl, ?_⟩) (⟨j1, c3, c6⟩) ?_
           rotate_left 1
           · intro u
             go_simp
             try simp only [d1]
             try simp only [d2]
             try simp only [d3]
             try simp only [d5]
             try with_reducible rfl
           simp only [Act.put, List.setIfInBounds_toArray, List.set_cons_zero, List.set_cons_succ])
        | (refine mv_free _ (Or.inr ⟨by rfl, rfl⟩) (⟨j1, c3, c6⟩) ?_
           simp only [Act.put, List.setIfInBounds_toArray, List.set_cons_zero, List.set_cons_succ])
    iterate 1
      first
        | (refine mv_take ?_ (Or.inl ⟨by rfl, ?_⟩) (⟨j1, c3, c6⟩) ?_
           rotate_left 1
           · intro u hu
             (try dsimp only at hu)
             go_simp
             try with_reducible rfl
           simp only [Act.put, List.setIfInBounds_toArray, List.set_cons_zero, List.set_cons_succ])
        | (refine mv_take _ (Or.inr ⟨by rfl, rfl⟩) (⟨j1, c3, c6⟩) ?_
           simp only [Act.put, List.setIfInBounds_toArray, List.set_cons_zero, List.set_cons_succ])
    iterate 3
      first
        | (refine mv_free ?_ (Or.inl ⟨by rfl, ?_⟩) (⟨j1, c3, c6⟩) ?_
           rotate_left 1
           · intro u
             go_simp
             try simp only [d1]
             try simp only [d2]
             try simp only [d3]
             try simp only [d5]
             try with_reducible rfl
           simp only [Act.put, List.setIfInBounds_toArray, List.set_cons_zero, List.set_cons_succ])
        | (refine mv_free _ (Or.inr ⟨by rfl, rfl⟩) (⟨j1, c3, c6⟩) ?_
           simp only [Act.put, List.setIfInBounds_toArray, List.set_cons_zero, List.set_cons_succ])
    iterate 1
      first
        | (refine mv_take ?_ (Or.inl ⟨by rfl, ?_⟩) (⟨j1, c3, c6⟩) ?_
           rotate_left 1
           · intro u hu
             (try dsimp only at hu)
             go_simp
             try with_reducible rfl
           simp only [Act.put, List.setIfInBounds_toArray, List.set_cons_zero, List.set_cons_succ])
        | (refine mv_take _ (Or.inr ⟨by rfl, rfl⟩) (⟨j1, c3, c6⟩) ?_
           simp only [Act.put, List.setIfInBounds_toArray, List.set_cons_zero, List.set_cons_succ])
    iterate 2
      first
        | (refine mv_free ?_ (Or.inl ⟨by rfl, ?_⟩) (⟨j1, c3, c6⟩) ?_
           rotate_left 1
           · intro u
             go_simp
             try simp only [d1]
             try simp only [d2]
             try simp only [d3]
             try simp only [d5]
             try with_reducible rfl
           simp only [Act.put, List.setIfInBounds_toArray, List.set_cons_zero, List.set_cons_succ])
        | (refine mv_free _ (Or.inr ⟨by rfl, rfl⟩) (⟨j1, c3, c6⟩) ?_
           simp only [Act.put, List.setIfInBounds_toArray, List.set_cons_zero, List.set_cons_succ])
    refine mv_done ?_
    clear j0 c0 j1 c3 c6
    replace hN3 := Lib.hid hN3.out.drew.drew
    replace hF3 := Lib.hid hF3.out.drew.drew
    replace hH3 := Lib.hid hH3.out.drew.drew
    replace bs3 := Lib.hid bs3.out.drew.drew
    generalize V2.drew.drew = V3 at *
    clear eV2
    obtain ⟨U5, eU5, hH5, hO5⟩ := hH3.out.rlast f0 f1 f2 f3
    have hN5 := Lib.hid (hN3.out.only hO5 (by have := hlt.out; omega))
    have hF5 := Lib.hid (hF3.out.only hO5 (by have := hs2.out; omega))
    have bs5 := Lib.hid (bs3.out.trans (.of_only hO5))
    replace hH5 := Lib.hid hH5
    replace eU5 := Lib.hid eU5
    obtain ⟨j0, j1, j2, j3, -, -, -, -, -⟩ := hF3.out
    have hO := hH3.out
    obtain ⟨c0, g0⟩ := hO.one 0 rfl
    obtain ⟨c1, g1⟩ := hO.one 1 rfl
    obtain ⟨c2, g2⟩ := hO.one 2 rfl
    obtain ⟨c3, g3⟩ := hO.one 3 rfl
    obtain ⟨c4, g4⟩ := hO.one 4 rfl
    obtain ⟨c5, g5⟩ := hO.one 5 rfl
    obtain ⟨c6, g6⟩ := hO.one 6 rfl
    obtain ⟨c7, g7⟩ := hO.one 7 rfl
    obtain ⟨c8, g8⟩ := hO.one 8 rfl
    clear hO
    go_upto_region 13 with (fail)
    rw [← eU5.out]
    clear c0 g0 c1 g1 c2 g2 c3 g3 c4 g4 c5 g5 c6 g6 c7 g7 c8 g8 j0 j1 j2 j3 hN3 hH3 bs3 hF3 hO5
    have r1 : IntKind.i64.wrap (re + 1) = re + 1 := by rw [IntKind.wrap_i64]; omega
    obtain ⟨U, eU, hH7, hO7⟩ := hH5.out.rref
    have hN7 := Lib.hid (hN5.out.only hO7 (by have := hlt.out; omega))
    have bs7 := Lib.hid (bs5.out.trans (.of_only hO7))
    have c8 := hH5.out.c 8 _ rfl
    have g8 := hH5.out.f 8 (by simp [rlC])
    replace hH7 := Lib.hid hH7
    replace eU := Lib.hid eU
    clear hN5 hH5 bs5 hO7 hF5
    go_upto_region 15 with (fail)
    rw [← eU.out]
    clear c8 g8
    obtain ⟨u9, e9, hF8, hb9⟩ := (hN7.out).laid 0 0 0 0
    have z0 := hF8.c0
    have z1 := hF8.c1
    have z2 := hF8.c2
    have z3 := hF8.c3
    rw [e9] at z0 z1 z2 z3
    have hR := Lib.hid (hH7.out.below hb9 hlt.out)
    have hBs := Lib.hid (bs7.out.last hb9)
    rw [e9] at hR hBs
    clear e9 hF8 hb9
    obtain ⟨q0, q1, q2, q3, p0, p1, p2, p3, -⟩ := hN7.out
    go_wp2
    refine bodyPost_ret (v := .tuple #[.agg #[.int .i64 0, .int .i64 0, .int .i64 0, .int .i64 0], .int .i64 5]) (by simp [results, Try.results34, go_sem, z0, z1, z2, z3]) rfl ?_
    exact ⟨rfl, hR.out, hBs.out⟩
end Go.Proofs.Ytflcagcekhgjcaa
