/- A link's Last and Reset; both steps side by side; the law LinkPlays; walked. -/
import Derived.Test.YtflcagcekhgjcaaLink7
import Derived.Deep.Cut
namespace Go.Proofs.Ytflcagcekhgjcaa
open Go.ChangeShapes Go.WideShapes Go.ChangeAt Go.RowKit
set_option linter.unusedVariables false
set_option linter.unusedSimpArgs false
set_option maxRecDepth 100000 in
set_option maxHeartbeats 8000000 in
theorem lkreset {id pa i s v t ag ta re : Int} {kn : Bool} (b : Nat) (w : World) (h : Held b (lkC id pa i s v t kn ag ta re) w) : Calls Try.prog 30 #[.pointer (some ⟨b, 0, none⟩)] w fun e w' => e = .returned (.tuple #[]) ∧ Held b (lkC id pa 0 0 0 0 false 0 ta re) w' ∧ Beside b w w' := by
  have hH := Lib.hid ((((((h.set 2 (.int .i64 0) (by simp [lkC])).set 3 (.int .i64 0) (by simp [lkC])).set 4 (.int .i64 0) (by simp [lkC])).set 5 (.int .i64 0) (by simp [lkC])).set 6 (.bool false) (by simp [lkC])).set 7 (.int .i64 0) (by simp [lkC]))
  have hO := Lib.hid (((((((Only.refl b w).setCell (p := ⟨b, 2, none⟩) (.int .i64 0)).setCell (p := ⟨b, 3, none⟩) (.int .i64 0)).setCell (p := ⟨b, 4, none⟩) (.int .i64 0)).setCell (p := ⟨b, 5, none⟩) (.int .i64 0)).setCell (p := ⟨b, 6, none⟩) (.bool false)).setCell (p := ⟨b, 7, none⟩) (.int .i64 0))
  obtain ⟨c0, g0⟩ := h.one 0 rfl
  obtain ⟨c1, g1⟩ := h.one 1 rfl
  obtain ⟨c2, g2⟩ := h.one 2 rfl
  obtain ⟨c3, g3⟩ := h.one 3 rfl
  obtain ⟨c4, g4⟩ := h.one 4 rfl
  obtain ⟨c5, g5⟩ := h.one 5 rfl
  obtain ⟨c6, g6⟩ := h.one 6 rfl
  obtain ⟨c7, g7⟩ := h.one 7 rfl
  obtain ⟨c8, g8⟩ := h.one 8 rfl
  obtain ⟨c9, g9⟩ := h.one 9 rfl
  clear h
  go_enter Try.func30, Try.ntmps30
  go_wp2
  go_end0
  exact ⟨rfl, hH.out, .of_only hO.out⟩
set_option maxRecDepth 100000 in
set_option maxHeartbeats 8000000 in
theorem lklast {id pa i s v t ag ta re : Int} {kn : Bool} (b : Nat) (w : World) (h : Held b (lkC id pa i s v t kn ag ta re) w) : Calls Try.prog 28 #[.pointer (some ⟨b, 0, none⟩)] w fun e w' => e = .returned (.tuple #[.agg #[.int .i64 i, .int .i64 s, .int .i64 v, .int .i64 t], .bool kn]) ∧ Below w.heap.size w w' := by
  obtain ⟨V0, eV0, hb0, hN0, hz0⟩ := f4_alloc w 0 0 0 0
  have hH := h.bel hb0
  have hlt := Lib.hid h.lt
  replace eV0 := Lib.hid eV0
  replace hN0 := Lib.hid hN0
  replace hb0 := Lib.hid hb0
  have c2 := hH.c 2 _ rfl
  have c3 := hH.c 3 _ rfl
  have c4 := hH.c 4 _ rfl
  have c5 := hH.c 5 _ rfl
  have c6 := hH.c 6 _ rfl
  clear h hH hz0
  go_enter Try.func28, Try.ntmps28
  go_upto_region 1 with (fail)
  rw [← eV0.out]
  go_wp2_with fail
  refine region_moves (fun u => u.cell? ⟨b, 2, none⟩ = some (.int .i64 i) ∧ u.cell? ⟨b, 3, none⟩ = some (.int .i64 s) ∧ u.cell? ⟨b, 4, none⟩ = some (.int .i64 v) ∧ u.cell? ⟨b, 5, none⟩ = some (.int .i64 t) ∧ u.cell? ⟨b, 6, none⟩ = some (.bool kn)) [] [(.free, 0), (.free, 1), (.free, 2), (.free, 3), (.take, 4), (.free, 5), (.free, 6), (.free, 7), (.free, 8), (.take, 9), (.step, 10), (.free, 11)] _ (by kernel_rfl) (by kernel_rfl) (by kernel_rfl) (by kernel_rfl) (by decide) rfl (fun _ _ _ _ _ h => h) ?_
  simp only [List.filterMap_cons, List.filterMap_nil, List.getElem?_toArray, List.getElem?_cons_zero, List.getElem?_cons_succ, Option.map_some]
  iterate 4
    first
      | (refine mv_free ?_ (Or.inl ⟨by rfl, ?_⟩) (⟨c2, c3, c4, c5, c6⟩) ?_
         rotate_left 1
         · intro u
           go_simp
           try simp only [d1]
           try simp only [d2]
           try simp only [d3]
           try with_reducible rfl
         simp only [Act.put, List.setIfInBounds_toArray, List.set_cons_zero, List.set_cons_succ])
      | (refine mv_free _ (Or.inr ⟨by rfl, rfl⟩) (⟨c2, c3, c4, c5, c6⟩) ?_
         simp only [Act.put, List.setIfInBounds_toArray, List.set_cons_zero, List.set_cons_succ])
  iterate 1
    first
      | (refine mv_take ?_ (Or.inl ⟨by rfl, ?_⟩) (⟨c2, c3, c4, c5, c6⟩) ?_
         rotate_left 1
         · intro u hu
           (try dsimp only at hu)
           go_simp
           try with_reducible rfl
         simp only [Act.put, List.setIfInBounds_toArray, List.set_cons_zero, List.set_cons_succ])
      | (refine mv_take _ (Or.inr ⟨by rfl, rfl⟩) (⟨c2, c3, c4, c5, c6⟩) ?_
         simp only [Act.put, List.setIfInBounds_toArray, List.set_cons_zero, List.set_cons_succ])
  iterate 4
    first
      | (refine mv_free ?_ (Or.inl ⟨by rfl, ?_⟩) (⟨c2, c3, c4, c5, c6⟩) ?_
         rotate_left 1
         · intro u
           go_simp
           try simp only [d1]
           try simp only [d2]
           try simp only [d3]
           try with_reducible rfl
         simp only [Act.put, List.setIfInBounds_toArray, List.set_cons_zero, List.set_cons_succ])
      | (refine mv_free _ (Or.inr ⟨by rfl, rfl⟩) (⟨c2, c3, c4, c5, c6⟩) ?_
         simp only [Act.put, List.setIfInBounds_toArray, List.set_cons_zero, List.set_cons_succ])
  iterate 1
    first
      | (refine mv_take ?_ (Or.inl ⟨by rfl, ?_⟩) (⟨c2, c3, c4, c5, c6⟩) ?_
         rotate_left 1
         · intro u hu
           (try dsimp only at hu)
           go_simp
           try with_reducible rfl
         simp only [Act.put, List.setIfInBounds_toArray, List.set_cons_zero, List.set_cons_succ])
      | (refine mv_take _ (Or.inr ⟨by rfl, rfl⟩) (⟨c2, c3, c4, c5, c6⟩) ?_
         simp only [Act.put, List.setIfInBounds_toArray, List.set_cons_zero, List.set_cons_succ])
  obtain ⟨q0, q1, q2, q3, p0, p1, p2, p3, -⟩ := hN0.out
  refine mv_step (fun K hK => ?_)
  go_simp
  clear q0 q1 q2 q3 p0 p1 p2 p3
  obtain ⟨u9, e9, hF8, hb9⟩ := hN0.out.laid i s v t
  rw [← e9]
  replace e9 := Lib.hid e9
  have k2 := (bc hb9 hlt.out (o := 2)).trans c2
  have k3 := (bc hb9 hlt.out (o := 3)).trans c3
  have k4 := (bc hb9 hlt.out (o := 4)).trans c4
  have k5 := (bc hb9 hlt.out (o := 5)).trans c5
  have k6 := (bc hb9 hlt.out (o := 6)).trans c6
  refine hK.out _ _ _ (fun u hu => hu) (⟨k2, k3, k4, k5, k6⟩) ?_
  clear hK K
  iterate 1
    first
      | (refine mv_free ?_ (Or.inl ⟨by rfl, ?_⟩) (⟨k2, k3, k4, k5, k6⟩) ?_
         rotate_left 1
         · intro u
           go_simp
           try simp only [d1]
           try simp only [d2]
           try simp only [d3]
           try with_reducible rfl
         simp only [Act.put, List.setIfInBounds_toArray, List.set_cons_zero, List.set_cons_succ])
      | (refine mv_free _ (Or.inr ⟨by rfl, rfl⟩) (⟨k2, k3, k4, k5, k6⟩) ?_
         simp only [Act.put, List.setIfInBounds_toArray, List.set_cons_zero, List.set_cons_succ])
  refine mv_done ?_
  clear k2 k3 k4 k5 k6 c2 c3 c4 c5 c6
  have z0 := hF8.c0
  have z1 := hF8.c1
  have z2 := hF8.c2
  have z3 := hF8.c3
  have hb := Lib.hid (show Below w.heap.size w u9.drew from (hb0.out.trans hb9).drew)
  clear hF8 hb9
  go_wp2
  refine bodyPost_ret (v := .tuple #[.agg #[.int .i64 i, .int .i64 s, .int .i64 v, .int .i64 t], .bool kn]) (by simp [results, Try.results28, go_sem, z0, z1, z2, z3]) rfl ⟨rfl, hb.out⟩

/-- The state that may be, behind so many steps. -/
structure StB (s : Int) (ag ta re : Int) (K : Nat) : Prop where
  s0 : 0 ≤ s ∧ s ≤ 255
  a0 : 0 ≤ ag ∧ ag ≤ 1000000
  t0 : 0 ≤ ta ∧ ta ≤ (K : Int)
  r0 : 0 ≤ re ∧ re ≤ (K : Int)
/-- What both steps tell and leave, by the bytes that came. -/
structure Both (id pa : Int) (l : List Int) (a : Option Addr) (cap : Nat) (K : Nat) (i s v t : Int) (kn : Bool) (ag ta re : Int) (f0 f1 f2 f3 ee i' s' v' t' : Int) (kn' : Bool) (ag' ta' re' : Int) : Prop where
  bd : StB s' ag' ta' re' (K + 1)
  one : ∀ (b : Nat) u, Held b (lkC id pa i s v t kn ag ta re) u → RowIs .u8 u a l → (0 < l.length → ∀ x, a = some x → x.block ≠ b) → Calls Try.prog 27 #[.pointer (some ⟨b, 0, none⟩), .slice a l.length cap] u fun e w' => e = .returned (.tuple #[.agg #[.int .i64 f0, .int .i64 f1, .int .i64 f2, .int .i64 f3], .int .i64 ee]) ∧ Held b (lkC id pa i' s' v' t' kn' ag' ta' re') w' ∧ Beside b u w'
  two : ∀ (m : Nat) u, Held m (rlC id ag i s v t kn ta re) u → RowIs .u8 u a l → (0 < l.length → ∀ x, a = some x → x.block ≠ m) → Calls Try.prog 34 #[.pointer (some ⟨m, 0, none⟩), .slice a l.length cap] u fun e w' => e = .returned (.tuple #[.agg #[.int .i64 f0, .int .i64 f1, .int .i64 f2, .int .i64 f3], .int .i64 ee]) ∧ Held m (rlC id ag' i' s' v' t' kn' ta' re') w' ∧ Beside m u w'
theorem both_step (id pa : Int) (l : List Int) (a : Option Addr) (cap K : Nat) (i s v t : Int) (kn : Bool) (ag ta re : Int) (hK : K ≤ 100) (h : StB s ag ta re K) (hL : l.length ≤ maxLen) (hB : BYT l) : ∃ (f0 f1 f2 f3 ee i' s' v' t' : Int) (kn' : Bool) (ag' ta' re' : Int), Both id pa l a cap K i s v t kn ag ta re f0 f1 f2 f3 ee i' s' v' t' kn' ag' ta' re' := by
  obtain ⟨hs, ha, ht, hr⟩ := h
  have hag := agN_bd ha
  by_cases h0 : l = []
  · subst h0
    exact ⟨0, 0, 0, 0, 10, i, s, v, t, kn, agN ag, ta, re, ⟨hs, hag, by omega, by omega⟩, fun b u hb _ _ => lkstep_none b u hb ha a cap, fun m u hm _ _ => rlk_none m u hm a cap ha⟩
  have hp : 0 < l.length := Nat.pos_of_ne_zero (fun e => h0 (List.eq_nil_of_length_eq_zero e))
  by_cases hE : tkE l = 0
  · obtain ⟨h8, _, _⟩ := tkE_ok hE
    have b2 := hB 2 (by omega)
    have es : tkS l = l.getD 2 0 := by unfold tkS; rw [if_pos hE]
    have hs' : 0 ≤ tkS l ∧ tkS l ≤ 255 := by omega
    by_cases hI : tkI l = id
    · cases kn with
      | false => exact ⟨tkI l, tkS l, tkV l, tkT l, 0, tkI l, tkS l, tkV l, tkT l, true, 0, ta + 1, re, ⟨hs', by omega, by omega, by omega⟩, fun b u hb hru hne => lkstep_fine b u hb ha (by omega) l a cap hru (hne hp) hp hL (fun u' hu' hru' => lkrcv_new b l u' hu' a cap hru' hL hB hE hI rfl), fun m u hm hru hne => rlk_new m l u hm a cap hru (hne hp) hL hB ha (by omega) (by omega) hE hI rfl⟩
      | true =>
        by_cases hS : tkS l = (s + 1) % 256
        · exact ⟨tkI l, tkS l, tkV l, tkT l, 0, tkI l, tkS l, tkV l, tkT l, true, 0, ta + 1, re, ⟨hs', by omega, by omega, by omega⟩, fun b u hb hru hne => lkstep_fine b u hb ha (by omega) l a cap hru (hne hp) hp hL (fun u' hu' hru' => lkrcv_ok b l u' hu' a cap hru' hL hB hE hI rfl hS hs), fun m u hm hru hne => rlk_ok m l u hm a cap hru (hne hp) hL hB ha (by omega) (by omega) hE hI rfl hS hs⟩
        · exact ⟨0, 0, 0, 0, 5, tkI l, tkS l, tkV l, tkT l, true, agN ag, ta, re + 1, ⟨hs', hag, by omega, by omega⟩, fun b u hb hru hne => lkstep_err b u hb ha (by omega) (by omega) l a cap hru (hne hp) hp hL (fun u' hu' hru' => lkrcv_order b l u' hu' a cap hru' hL hB hE hI rfl hS hs), fun m u hm hru hne => rlk_order m l u hm a cap hru (hne hp) hL hB ha (by omega) (by omega) hE hI rfl hS hs⟩
    · exact ⟨0, 0, 0, 0, 10, i, s, v, t, kn, agN ag, ta, re + 1, ⟨hs, hag, by omega, by omega⟩, fun b u hb hru hne => lkstep_err b u hb ha (by omega) (by omega) l a cap hru (hne hp) hp hL (fun u' hu' hru' => lkrcv_id b l u' hu' a cap hru' hL hB hE hI), fun m u hm hru hne => rlk_id m l u hm a cap hru (hne hp) hL hB ha (by omega) (by omega) hE hI⟩
  · exact ⟨0, 0, 0, 0, tkE l, i, s, v, t, kn, agN ag, ta, re + 1, ⟨hs, hag, by omega, by omega⟩, fun b u hb hru hne => lkstep_err b u hb ha (by omega) hE l a cap hru (hne hp) hp hL (fun u' hu' hru' => lkrcv_bad b l u' hu' a cap hru' hL hB hE), fun m u hm hru hne => rlk_bad m l u hm a cap hru (hne hp) hL hB ha (by omega) (by omega) hp hE⟩
set_option maxRecDepth 100000 in
set_option maxHeartbeats 8000000 in
theorem law_LinkPlays (id pa : Int) (a : Option Addr) (GA : Nat → Option Addr) (GC : Nat → Nat) (cap : Nat) (Z : List (List Int)) (w : World) (hg : GridIs .u8 w a GA GC Z) (hw : ∀ i, i < Z.length → (Z.getD i []).length ≤ maxLen ∧ ∀ n ∈ Z.getD i [], (Lit.int .u8 n).wf = true) (hZL : Z.length ≤ maxLen) : Calls Try.prog 8 #[.int .i64 id, .int .i64 pa, .slice a Z.length cap] w fun e w' => e = .returned (.bool true) ∧ Below w.heap.size w w' := by
  have hL' : (Z.length : Int) ≤ 9223372036854775807 := by unfold maxLen at hZL; omega
  have LV := Lib.hid (fun u => lives13 u)
  by_cases h60 : 60 < Z.length
  · have d60 : (60 : Int) < (Z.length : Int) := by omega
    clear hg hw hZL hL' h60
    go_enter Try.func8, Try.ntmps8
    go_wp2_with fail
    refine (LV.out _).mono ?_
    rintro e w20 ⟨rfl, hb20⟩
    have hb21 := Lib.hid ((Below.refl w.heap.size w).trans (hb20.mono ((Below.refl w.heap.size w)).size))
    clear hb20
    go_wp2
    go_ret
    exact ⟨rfl, hb21.out⟩
  have d60 : (Z.length : Int) ≤ 60 := by omega
  rcases (show id < 0 ∨ (0 ≤ id ∧ 255 < id) ∨ (0 ≤ id ∧ id ≤ 255 ∧ pa < 0) ∨ (0 ≤ id ∧ id ≤ 255 ∧ 0 ≤ pa ∧ 1000 < pa) ∨ (0 ≤ id ∧ id ≤ 255 ∧ 0 ≤ pa ∧ pa ≤ 1000) by omega) with g | ⟨g, g2⟩ | ⟨g, g2, g3⟩ | ⟨g, g2, g3, g4⟩ | ⟨g, g2, g3, g4⟩
  · clear hg hw hZL hL' h60
    go_enter Try.func8, Try.ntmps8
    go_wp2_with fail
    refine (LV.out _).mono ?_
    rintro e w20 ⟨rfl, hb20⟩
    have hb21 := Lib.hid ((Below.refl w.heap.size w).trans (hb20.mono ((Below.refl w.heap.size w)).size))
    clear hb20
    go_wp2
    go_ret
    exact ⟨rfl, hb21.out⟩
  · clear hg hw hZL hL' h60
    go_enter Try.func8, Try.ntmps8
    go_wp2_with fail
    refine (LV.out _).mono ?_
    rintro e w20 ⟨rfl, hb20⟩
    have hb21 := Lib.hid ((Below.refl w.heap.size w).trans (hb20.mono ((Below.refl w.heap.size w)).size))
    clear hb20
    go_wp2
    go_ret
    exact ⟨rfl, hb21.out⟩
  · clear hg hw hZL hL' h60
    go_enter Try.func8, Try.ntmps8
    go_wp2_with fail
    refine (LV.out _).mono ?_
    rintro e w20 ⟨rfl, hb20⟩
    have hb21 := Lib.hid ((Below.refl w.heap.size w).trans (hb20.mono ((Below.refl w.heap.size w)).size))
    clear hb20
    go_wp2
    go_ret
    exact ⟨rfl, hb21.out⟩
  · clear hg hw hZL hL' h60
    go_enter Try.func8, Try.ntmps8
    go_wp2_with fail
    refine (LV.out _).mono ?_
    rintro e w20 ⟨rfl, hb20⟩
    have hb21 := Lib.hid ((Below.refl w.heap.size w).trans (hb20.mono ((Below.refl w.heap.size w)).size))
    clear hb20
    go_wp2
    go_ret
    exact ⟨rfl, hb21.out⟩
  have NW := Lib.hid (fun u => lknew_ok id pa u ⟨g, g2, g3, g4⟩)
  have GG := Lib.hid (fun u (h : Below w.heap.size w u) i (hi : i < Z.length) => (hg.below h).at hi)
  have GR := Lib.hid (fun u (h : Below w.heap.size w u) i (hi : i < Z.length) => (hg.below h).rows i hi)
  have GB := Lib.hid (fun i (hi : i < Z.length) (hp : 0 < (Z.getD i []).length) => show ∀ x, GA i = some x → x.block < w.heap.size from fun x hx => by
    obtain ⟨b9, o9, e9, hlt9, -⟩ := (hg.rows i hi).at hp
    rw [e9] at hx
    injection hx with hx
    subst hx
    exact hlt9)
  have HW := Lib.hid (fun i (hi : i < Z.length) => show (Z.getD i []).length ≤ maxLen ∧ BYT (Z.getD i []) from ⟨(hw i hi).1, byt_of (hw i hi).2⟩)
  have LA := Lib.hid (fun (b : Nat) (i s v t : Int) (kn : Bool) (ag ta re : Int) u (h : Held b (lkC id pa i s v t kn ag ta re) u) => lklast b u h)
  have CO := Lib.hid (fun (b : Nat) (i s v t : Int) (kn : Bool) (ag ta re : Int) u (h : Held b (lkC id pa i s v t kn ag ta re) u) => lkcounts b u h)
  have AG := Lib.hid (fun (b : Nat) (i s v t : Int) (kn : Bool) (ag ta re : Int) u (h : Held b (lkC id pa i s v t kn ag ta re) u) => lkage b u h)
  have SL := Lib.hid (fun (b : Nat) (i s v t : Int) (kn : Bool) (ag ta re : Int) u (h : Held b (lkC id pa i s v t kn ag ta re) u) => lkstale b u h)
  have RE := Lib.hid (fun (b : Nat) (i s v t : Int) (kn : Bool) (ag ta re : Int) u (h : Held b (lkC id pa i s v t kn ag ta re) u) => lkreset b u h)
  clear hg hw hZL hL' h60
  go_enter Try.func8, Try.ntmps8
  go_wp2_with fail
  refine (NW.out _).mono ?_
  rintro e w1 ⟨b, hbb, rfl, hH1, hb1⟩
  obtain ⟨m, em⟩ : ∃ m, m = w1.heap.size := ⟨_, rfl⟩
  obtain ⟨V1, eV1, hH2, hM2, hb2⟩ : ∃ V1, V1 = w1.alloc (.cells #[.int .i64 id, .int .i64 0, .int .i64 0, .int .i64 0, .int .i64 0, .int .i64 0, .bool false, .int .i64 0, .int .i64 0] 52) ∧ Held b (lkC id pa 0 0 0 0 false 0 0 0) V1 ∧ Held m (rlC id 0 0 0 0 0 false 0 0) V1 ∧ Below w.heap.size w V1 := ⟨_, rfl, hH1.alloc _, by rw [em]; exact Held.new w1 (rlC id 0 0 0 0 0 false 0 0) _, hb1.trans (((Below.refl w1.heap.size w1).alloc (Nat.le_refl _) _).mono hb1.size)⟩
  have hbm := Lib.hid (show w.heap.size ≤ b ∧ b < m ∧ w.heap.size ≤ m from ⟨hbb, by rw [em]; exact hH1.lt, by rw [em]; exact hb1.size⟩)
  have S0 := Lib.hid (show Held b (lkC id pa 0 0 0 0 false 0 0 0) V1 ∧ Held m (rlC id 0 0 0 0 0 false 0 0) V1 ∧ StB 0 0 0 0 0 from ⟨hH2, hM2, ⟨by omega, by omega, by omega, by omega⟩⟩)
  replace eV1 := Lib.hid eV1
  clear hH1 hbb hb1 hH2 hM2
  go_upto_region 5 with (fail)
  rw [← eV1.out, ← em]
  replace em := Lib.hid em
  go_wp2_with fail
  go_loopw [10] (fun x v => ∃ (k : Nat) (i s y t : Int) (kn : Bool) (ag ta re : Int), k ≤ Z.length ∧ x = .int .i64 (k : Int) ∧ Below w.heap.size w v ∧ Hid (Held b (lkC id pa i s y t kn ag ta re) v ∧ Held m (rlC id ag i s y t kn ta re) v ∧ StB s ag ta re k)) (fun x _ => Z.length - (intOf x).toNat)
  case atStart => exact ⟨0, 0, 0, 0, 0, false, 0, 0, 0, by omega, rfl, hb2, S0⟩
  case round =>
    clear hb2 S0
    obtain ⟨k, i, s, y, t, kn, ag, ta, re, hk, rfl, hb, hS⟩ := hrel
    by_cases hlt : k < Z.length
    · have h1 : (k : Int) < (Z.length : Int) := by omega
      have h0 : 0 ≤ (k : Int) := by omega
      have hk100 : k ≤ 100 := by omega
      obtain ⟨bz, oz, ez, -, -⟩ := GG.out _ hb k hlt
      subst ez
      have C9 : ∀ u, Below w.heap.size w u → u.cell? ⟨bz, oz + k, none⟩ = some (.slice (GA k) (Z.getD k []).length (GC k)) := fun u h => by
        obtain ⟨b', o', e', -, c'⟩ := GG.out u h k hlt
        injection e' with e'
        injection e' with e1 e2
        subst e1 e2
        exact c'
      have RW : ∀ u, Below w.heap.size w u → RowIs .u8 u (GA k) (Z.getD k []) := fun u h => GR.out u h k hlt
      have hBB := GB.out k hlt
      obtain ⟨hRL, hRB⟩ := HW.out k hlt
      generalize Z.getD k [] = R at *
      generalize GA k = A at *
      generalize GC k = C at *
      obtain ⟨n, en⟩ : ∃ n, n = R.length := ⟨_, rfl⟩
      have hneb : 0 < R.length → ∀ x, A = some x → x.block ≠ b := fun hp x hx => by have := hBB hp x hx; have := hbm.out; omega
      have hnem : 0 < R.length → ∀ x, A = some x → x.block ≠ m := fun hp x hx => by have := hBB hp x hx; have := hbm.out; omega
      generalize wr = v0 at *
      obtain ⟨hHb, hHm, hst⟩ := hS.out
      clear hS hBB
      have cases3 : n ≠ 1 ∨ ∃ x0 br or_, n = 1 ∧ A = some ⟨br, or_, none⟩ ∧ ∀ u, Below w.heap.size w u → u.cell? ⟨br, or_, none⟩ = some (.int .u8 x0) := by
        by_cases hn1 : n = 1
        · right
          obtain ⟨br, or_, eA, -, -⟩ := (RW _ hb).at (i := 0) (by omega)
          refine ⟨R.getD 0 0, br, or_, hn1, eA, fun u h => ?_⟩
          obtain ⟨b', o', e', -, c'⟩ := (RW u h).at (i := 0) (by omega)
          rw [eA] at e'
          injection e' with e'
          injection e' with e1 e2
          subst e1 e2
          rw [Nat.add_zero] at c'
          exact c'
        · exact .inl hn1
      replace hRB := Lib.hid hRB
      replace RW := Lib.hid RW
      have c9 := C9 _ hb
      rw [← en] at c9 C9
      replace C9 := Lib.hid C9
      rw [← en] at hneb hnem
      replace hneb := Lib.hid hneb
      replace hnem := Lib.hid hnem
      rcases cases3 with hn1 | ⟨x0, br, or_, rfl, rfl, hX⟩
      · have d1 : ((n : Int) == 1) = false := by simp; omega
        obtain ⟨f0, f1, f2, f3, ee, i1, s1, y1, t1, kn1, ag1, ta1, re1, BB⟩ := both_step id pa R A C k i s y t kn ag ta re hk100 hst hRL hRB.out
        have hst1 := Lib.hid BB.bd
        have S1 := BB.one
        have S2 := BB.two
        rw [← en] at S1 S2
        replace S1 := Lib.hid S1
        replace S2 := Lib.hid S2
        clear BB
        clear hst hRL
        try replace en := Lib.hid en
        go_wp2_with fail
        refine (S1.out b _ hHb (RW.out _ hb) hneb.out).mono ?_
        rintro e w3 ⟨rfl, hHb3, bs3⟩
        have hb3 := hb.trans (bs3.below hbm.out.1 hb.size)
        have hHm3 := hHm.beside bs3 (by have := hbm.out; omega)
        clear hHb hHm hb bs3 S1
        go_upto_region 14 with (fail)
        obtain ⟨V3, eV3, hm3, hF3, hz3⟩ := f4_alloc w3 f0 f1 f2 f3
        rw [← eV3]
        replace eV3 := Lib.hid eV3
        have hb4 := hb3.trans (hm3.mono hb3.size)
        have hHb4 := hHb3.bel hm3
        have hHm4 := hHm3.bel hm3
        have hlm := hHm3.lt
        obtain ⟨p1, ep1⟩ : ∃ p, p = w3.heap.size := ⟨_, rfl⟩
        rw [← ep1] at hF3 ⊢
        have hp1 := Lib.hid (show m < p1 ∧ b < p1 from by have := hbm.out; omega)
        replace ep1 := Lib.hid ep1
        clear hb3 hHb3 hHm3 hm3 hz3 hlm
        have c9 := C9.out _ hb4
        replace hF3 := Lib.hid hF3
        replace hHb4 := Lib.hid hHb4
        go_wp2_with fail
        refine (S2.out m _ hHm4 (RW.out _ hb4) hnem.out).mono ?_
        rintro e w5 ⟨rfl, hHm5, bs5⟩
        have hb5 := hb4.trans (bs5.below hbm.out.2.2 hb4.size)
        have hHb5 := hHb4.out.beside bs5 (by have := hbm.out; omega)
        have hF5 := hF3.out.beside bs5 (by have := hp1.out; omega)
        clear hHm4 hHb4 hF3 hb4 bs5 S2 c9
        go_upto_region 15 with (fail)
        obtain ⟨V5, eV5, hm5, hG5, hz5⟩ := f4_alloc w5 f0 f1 f2 f3
        rw [← eV5]
        replace eV5 := Lib.hid eV5
        have hb6 := hb5.trans (hm5.mono hb5.size)
        have hHb6 := hHb5.bel hm5
        have hHm6 := Lib.hid (hHm5.bel hm5)
        have hF6 := Lib.hid (hF5.keep hm5)
        obtain ⟨p2, ep2⟩ : ∃ p, p = w5.heap.size := ⟨_, rfl⟩
        rw [← ep2] at hG5 ⊢
        replace ep2 := Lib.hid ep2
        replace hG5 := Lib.hid hG5
        clear hb5 hHb5 hHm5 hF5 hm5 hz5
        go_wp2_with fail
        refine (LA.out b _ _ _ _ _ _ _ _ _ hHb6).mono ?_
        rintro e w7 ⟨rfl, hq7⟩
        have hb7 := hb6.trans (hq7.mono hb6.size)
        have hHb7 := hHb6.bel hq7
        have hHm7 := hHm6.out.bel hq7
        have hF7 := hF6.out.keep hq7
        have hG7 := hG5.out.keep hq7
        clear hb6 hHb6 hHm6 hF6 hG5 hq7
        go_upto_region 16 with (fail)
        obtain ⟨V7, eV7, hm7, hK7, hz7⟩ := f4_alloc w7 i1 s1 y1 t1
        rw [← eV7]
        replace eV7 := Lib.hid eV7
        have hb8 := hb7.trans (hm7.mono hb7.size)
        have hHb8 := hHb7.bel hm7
        have hHm8 := Lib.hid (hHm7.bel hm7)
        have hF8 := Lib.hid (hF7.keep hm7)
        have hG8 := Lib.hid (hG7.keep hm7)
        obtain ⟨p3, ep3⟩ : ∃ p, p = w7.heap.size := ⟨_, rfl⟩
        rw [← ep3] at hK7 ⊢
        replace ep3 := Lib.hid ep3
        replace hK7 := Lib.hid hK7
        clear hb7 hHb7 hHm7 hF7 hG7 hm7 hz7
        go_wp2_with fail
        refine (CO.out b _ _ _ _ _ _ _ _ _ hHb8).mono ?_
        rintro e w9 ⟨rfl, q9, rfl⟩
        have hb9 := below_drewN hb8 q9
        have hHb9 := hHb8.drewN q9
        have hHm9 := hHm8.out.drewN q9
        have hF9 : Fr4 p1 f0 f1 f2 f3 (V7.drewN q9) := ⟨hF8.out.c0, hF8.out.c1, hF8.out.c2, hF8.out.c3, hF8.out.f0, hF8.out.f1, hF8.out.f2, hF8.out.f3, hF8.out.lt⟩
        have hG9 : Fr4 p2 f0 f1 f2 f3 (V7.drewN q9) := ⟨hG8.out.c0, hG8.out.c1, hG8.out.c2, hG8.out.c3, hG8.out.f0, hG8.out.f1, hG8.out.f2, hG8.out.f3, hG8.out.lt⟩
        have hK9 : Fr4 p3 i1 s1 y1 t1 (V7.drewN q9) := ⟨hK7.out.c0, hK7.out.c1, hK7.out.c2, hK7.out.c3, hK7.out.f0, hK7.out.f1, hK7.out.f2, hK7.out.f3, hK7.out.lt⟩
        generalize V7.drewN q9 = X at *
        clear hb8 hHb8 hHm8 hF8 hG8 hK7 eV7
        have A1 := Lib.hid (fun u h => AG.out b i1 s1 y1 t1 kn1 ag1 ta1 re1 u h)
        have A2 := Lib.hid (fun u h => SL.out b i1 s1 y1 t1 kn1 ag1 ta1 re1 u h)
        have z0 : X.cell? ⟨p1, 0, none⟩ = some (.int .i64 f0) := hF9.c0
        have z1 : X.cell? ⟨p1, 1, none⟩ = some (.int .i64 f1) := hF9.c1
        have z2 : X.cell? ⟨p1, 2, none⟩ = some (.int .i64 f2) := hF9.c2
        have z3 : X.cell? ⟨p1, 3, none⟩ = some (.int .i64 f3) := hF9.c3
        have z4 : X.cell? ⟨p2, 0, none⟩ = some (.int .i64 f0) := hG9.c0
        have z5 : X.cell? ⟨p2, 1, none⟩ = some (.int .i64 f1) := hG9.c1
        have z6 : X.cell? ⟨p2, 2, none⟩ = some (.int .i64 f2) := hG9.c2
        have z7 : X.cell? ⟨p2, 3, none⟩ = some (.int .i64 f3) := hG9.c3
        have z8 : X.cell? ⟨p3, 0, none⟩ = some (.int .i64 i1) := hK9.c0
        have z9 : X.cell? ⟨p3, 1, none⟩ = some (.int .i64 s1) := hK9.c1
        have z10 : X.cell? ⟨p3, 2, none⟩ = some (.int .i64 y1) := hK9.c2
        have z11 : X.cell? ⟨p3, 3, none⟩ = some (.int .i64 t1) := hK9.c3
        have z12 : X.cell? ⟨m, 1, none⟩ = some (.int .i64 ag1) := hHm9.c 1 _ rfl
        have z13 : X.cell? ⟨m, 2, none⟩ = some (.int .i64 i1) := hHm9.c 2 _ rfl
        have z14 : X.cell? ⟨m, 3, none⟩ = some (.int .i64 s1) := hHm9.c 3 _ rfl
        have z15 : X.cell? ⟨m, 4, none⟩ = some (.int .i64 y1) := hHm9.c 4 _ rfl
        have z16 : X.cell? ⟨m, 5, none⟩ = some (.int .i64 t1) := hHm9.c 5 _ rfl
        have z17 : X.cell? ⟨m, 6, none⟩ = some (.bool kn1) := hHm9.c 6 _ rfl
        have z18 : X.cell? ⟨m, 7, none⟩ = some (.int .i64 ta1) := hHm9.c 7 _ rfl
        have z19 : X.cell? ⟨m, 8, none⟩ = some (.int .i64 re1) := hHm9.c 8 _ rfl
        replace hHb9 := Lib.hid hHb9
        replace hHm9 := Lib.hid hHm9
        clear hF9 hG9 hK9
        obtain ⟨sl, esl⟩ : ∃ sl, sl = decide (pa < ag1) := ⟨_, rfl⟩
        rw [← esl] at A2
        have d2 : decide (pa < ag1) = sl := esl.symm
        have d3 : (sl != sl) = false := by simp
        replace esl := Lib.hid esl
        go_wp2_with fail
        refine region_moves (fun u => u.cell? ⟨p1, 0, none⟩ = some (.int .i64 f0) ∧ u.cell? ⟨p1, 1, none⟩ = some (.int .i64 f1) ∧ u.cell? ⟨p1, 2, none⟩ = some (.int .i64 f2) ∧ u.cell? ⟨p1, 3, none⟩ = some (.int .i64 f3) ∧ u.cell? ⟨p2, 0, none⟩ = some (.int .i64 f0) ∧ u.cell? ⟨p2, 1, none⟩ = some (.int .i64 f1) ∧ u.cell? ⟨p2, 2, none⟩ = some (.int .i64 f2) ∧ u.cell? ⟨p2, 3, none⟩ = some (.int .i64 f3) ∧ u.cell? ⟨p3, 0, none⟩ = some (.int .i64 i1) ∧ u.cell? ⟨p3, 1, none⟩ = some (.int .i64 s1) ∧ u.cell? ⟨p3, 2, none⟩ = some (.int .i64 y1) ∧ u.cell? ⟨p3, 3, none⟩ = some (.int .i64 t1) ∧ u.cell? ⟨m, 1, none⟩ = some (.int .i64 ag1) ∧ u.cell? ⟨m, 2, none⟩ = some (.int .i64 i1) ∧ u.cell? ⟨m, 3, none⟩ = some (.int .i64 s1) ∧ u.cell? ⟨m, 4, none⟩ = some (.int .i64 y1) ∧ u.cell? ⟨m, 5, none⟩ = some (.int .i64 t1) ∧ u.cell? ⟨m, 6, none⟩ = some (.bool kn1) ∧ u.cell? ⟨m, 7, none⟩ = some (.int .i64 ta1) ∧ u.cell? ⟨m, 8, none⟩ = some (.int .i64 re1)) [] [(.take, 0), (.take, 1), (.free, 2), (.free, 3), (.free, 4), (.free, 5), (.free, 6), (.free, 7), (.free, 8), (.take, 9), (.free, 10), (.take, 11), (.free, 12), (.free, 13), (.free, 14), (.free, 15), (.free, 16), (.take, 17), (.free, 18), (.free, 19), (.free, 20), (.free, 21), (.free, 22), (.take, 23), (.free, 24), (.free, 25), (.free, 26), (.free, 27), (.free, 28), (.take, 29), (.free, 30), (.free, 31), (.free, 32), (.free, 33), (.free, 35), (.take, 36), (.step, 34), (.free, 37), (.free, 38), (.free, 39), (.free, 40), (.free, 42), (.take, 43), (.free, 44), (.free, 45), (.step, 41), (.free, 46), (.free, 47)] _ (by kernel_rfl) (by kernel_rfl) (by kernel_rfl) (by kernel_rfl) (by decide) rfl (fun _ _ _ _ _ h => h) ?_
        simp only [List.filterMap_cons, List.filterMap_nil, List.getElem?_toArray, List.getElem?_cons_zero, List.getElem?_cons_succ, Option.map_some]
        iterate 2
          first
            | (refine mv_take ?_ (Or.inl ⟨by rfl, ?_⟩) (⟨z0, z1, z2, z3, z4, z5, z6, z7, z8, z9, z10, z11, z12, z13, z14, z15, z16, z17, z18, z19⟩) ?_
               rotate_left 1
               · intro u hu
                 (try dsimp only at hu)
                 go_simp
                 try with_reducible rfl
               simp only [Act.put, List.setIfInBounds_toArray, List.set_cons_zero, List.set_cons_succ])
            | (refine mv_take _ (Or.inr ⟨by rfl, rfl⟩) (⟨z0, z1, z2, z3, z4, z5, z6, z7, z8, z9, z10, z11, z12, z13, z14, z15, z16, z17, z18, z19⟩) ?_
               simp only [Act.put, List.setIfInBounds_toArray, List.set_cons_zero, List.set_cons_succ])
        iterate 7
          first
            | (refine mv_free ?_ (Or.inl ⟨by rfl, ?_⟩) (⟨z0, z1, z2, z3, z4, z5, z6, z7, z8, z9, z10, z11, z12, z13, z14, z15, z16, z17, z18, z19⟩) ?_
               rotate_left 1
               · intro u
                 go_simp
                 try simp only [d1]
                 try simp only [d2]
                 try simp only [d3]
                 try with_reducible rfl
               simp only [Act.put, List.setIfInBounds_toArray, List.set_cons_zero, List.set_cons_succ])
            | (refine mv_free _ (Or.inr ⟨by rfl, rfl⟩) (⟨z0, z1, z2, z3, z4, z5, z6, z7, z8, z9, z10, z11, z12, z13, z14, z15, z16, z17, z18, z19⟩) ?_
               simp only [Act.put, List.setIfInBounds_toArray, List.set_cons_zero, List.set_cons_succ])
        iterate 1
          first
            | (refine mv_take ?_ (Or.inl ⟨by rfl, ?_⟩) (⟨z0, z1, z2, z3, z4, z5, z6, z7, z8, z9, z10, z11, z12, z13, z14, z15, z16, z17, z18, z19⟩) ?_
               rotate_left 1
               · intro u hu
                 (try dsimp only at hu)
                 go_simp
                 try with_reducible rfl
               simp only [Act.put, List.setIfInBounds_toArray, List.set_cons_zero, List.set_cons_succ])
            | (refine mv_take _ (Or.inr ⟨by rfl, rfl⟩) (⟨z0, z1, z2, z3, z4, z5, z6, z7, z8, z9, z10, z11, z12, z13, z14, z15, z16, z17, z18, z19⟩) ?_
               simp only [Act.put, List.setIfInBounds_toArray, List.set_cons_zero, List.set_cons_succ])
        iterate 1
          first
            | (refine mv_free ?_ (Or.inl ⟨by rfl, ?_⟩) (⟨z0, z1, z2, z3, z4, z5, z6, z7, z8, z9, z10, z11, z12, z13, z14, z15, z16, z17, z18, z19⟩) ?_
               rotate_left 1
               · intro u
                 go_simp
                 try simp only [d1]
                 try simp only [d2]
                 try simp only [d3]
                 try with_reducible rfl
               simp only [Act.put, List.setIfInBounds_toArray, List.set_cons_zero, List.set_cons_succ])
            | (refine mv_free _ (Or.inr ⟨by rfl, rfl⟩) (⟨z0, z1, z2, z3, z4, z5, z6, z7, z8, z9, z10, z11, z12, z13, z14, z15, z16, z17, z18, z19⟩) ?_
               simp only [Act.put, List.setIfInBounds_toArray, List.set_cons_zero, List.set_cons_succ])
        iterate 1
          first
            | (refine mv_take ?_ (Or.inl ⟨by rfl, ?_⟩) (⟨z0, z1, z2, z3, z4, z5, z6, z7, z8, z9, z10, z11, z12, z13, z14, z15, z16, z17, z18, z19⟩) ?_
               rotate_left 1
               · intro u hu
                 (try dsimp only at hu)
                 go_simp
                 try with_reducible rfl
               simp only [Act.put, List.setIfInBounds_toArray, List.set_cons_zero, List.set_cons_succ])
            | (refine mv_take _ (Or.inr ⟨by rfl, rfl⟩) (⟨z0, z1, z2, z3, z4, z5, z6, z7, z8, z9, z10, z11, z12, z13, z14, z15, z16, z17, z18, z19⟩) ?_
               simp only [Act.put, List.setIfInBounds_toArray, List.set_cons_zero, List.set_cons_succ])
        iterate 5
          first
            | (refine mv_free ?_ (Or.inl ⟨by rfl, ?_⟩) (⟨z0, z1, z2, z3, z4, z5, z6, z7, z8, z9, z10, z11, z12, z13, z14, z15, z16, z17, z18, z19⟩) ?_
               rotate_left 1
               · intro u
                 go_simp
                 try simp only [d1]
                 try simp only [d2]
                 try simp only [d3]
                 try with_reducible rfl
               simp only [Act.put, List.setIfInBounds_toArray, List.set_cons_zero, List.set_cons_succ])
            | (refine mv_free _ (Or.inr ⟨by rfl, rfl⟩) (⟨z0, z1, z2, z3, z4, z5, z6, z7, z8, z9, z10, z11, z12, z13, z14, z15, z16, z17, z18, z19⟩) ?_
               simp only [Act.put, List.setIfInBounds_toArray, List.set_cons_zero, List.set_cons_succ])
        iterate 1
          first
            | (refine mv_take ?_ (Or.inl ⟨by rfl, ?_⟩) (⟨z0, z1, z2, z3, z4, z5, z6, z7, z8, z9, z10, z11, z12, z13, z14, z15, z16, z17, z18, z19⟩) ?_
               rotate_left 1
               · intro u hu
                 (try dsimp only at hu)
                 go_simp
                 try with_reducible rfl
               simp only [Act.put, List.setIfInBounds_toArray, List.set_cons_zero, List.set_cons_succ])
            | (refine mv_take _ (Or.inr ⟨by rfl, rfl⟩) (⟨z0, z1, z2, z3, z4, z5, z6, z7, z8, z9, z10, z11, z12, z13, z14, z15, z16, z17, z18, z19⟩) ?_
               simp only [Act.put, List.setIfInBounds_toArray, List.set_cons_zero, List.set_cons_succ])
        iterate 5
          first
            | (refine mv_free ?_ (Or.inl ⟨by rfl, ?_⟩) (⟨z0, z1, z2, z3, z4, z5, z6, z7, z8, z9, z10, z11, z12, z13, z14, z15, z16, z17, z18, z19⟩) ?_
               rotate_left 1
               · intro u
                 go_simp
                 try simp only [d1]
                 try simp only [d2]
                 try simp only [d3]
                 try with_reducible rfl
               simp only [Act.put, List.setIfInBounds_toArray, List.set_cons_zero, List.set_cons_succ])
            | (refine mv_free _ (Or.inr ⟨by rfl, rfl⟩) (⟨z0, z1, z2, z3, z4, z5, z6, z7, z8, z9, z10, z11, z12, z13, z14, z15, z16, z17, z18, z19⟩) ?_
               simp only [Act.put, List.setIfInBounds_toArray, List.set_cons_zero, List.set_cons_succ])
        iterate 1
          first
            | (refine mv_take ?_ (Or.inl ⟨by rfl, ?_⟩) (⟨z0, z1, z2, z3, z4, z5, z6, z7, z8, z9, z10, z11, z12, z13, z14, z15, z16, z17, z18, z19⟩) ?_
               rotate_left 1
               · intro u hu
                 (try dsimp only at hu)
                 go_simp
                 try with_reducible rfl
               simp only [Act.put, List.setIfInBounds_toArray, List.set_cons_zero, List.set_cons_succ])
            | (refine mv_take _ (Or.inr ⟨by rfl, rfl⟩) (⟨z0, z1, z2, z3, z4, z5, z6, z7, z8, z9, z10, z11, z12, z13, z14, z15, z16, z17, z18, z19⟩) ?_
               simp only [Act.put, List.setIfInBounds_toArray, List.set_cons_zero, List.set_cons_succ])
        iterate 5
          first
            | (refine mv_free ?_ (Or.inl ⟨by rfl, ?_⟩) (⟨z0, z1, z2, z3, z4, z5, z6, z7, z8, z9, z10, z11, z12, z13, z14, z15, z16, z17, z18, z19⟩) ?_
               rotate_left 1
               · intro u
                 go_simp
                 try simp only [d1]
                 try simp only [d2]
                 try simp only [d3]
                 try with_reducible rfl
               simp only [Act.put, List.setIfInBounds_toArray, List.set_cons_zero, List.set_cons_succ])
            | (refine mv_free _ (Or.inr ⟨by rfl, rfl⟩) (⟨z0, z1, z2, z3, z4, z5, z6, z7, z8, z9, z10, z11, z12, z13, z14, z15, z16, z17, z18, z19⟩) ?_
               simp only [Act.put, List.setIfInBounds_toArray, List.set_cons_zero, List.set_cons_succ])
        iterate 1
          first
            | (refine mv_take ?_ (Or.inl ⟨by rfl, ?_⟩) (⟨z0, z1, z2, z3, z4, z5, z6, z7, z8, z9, z10, z11, z12, z13, z14, z15, z16, z17, z18, z19⟩) ?_
               rotate_left 1
               · intro u hu
                 (try dsimp only at hu)
                 go_simp
                 try with_reducible rfl
               simp only [Act.put, List.setIfInBounds_toArray, List.set_cons_zero, List.set_cons_succ])
            | (refine mv_take _ (Or.inr ⟨by rfl, rfl⟩) (⟨z0, z1, z2, z3, z4, z5, z6, z7, z8, z9, z10, z11, z12, z13, z14, z15, z16, z17, z18, z19⟩) ?_
               simp only [Act.put, List.setIfInBounds_toArray, List.set_cons_zero, List.set_cons_succ])
        iterate 5
          first
            | (refine mv_free ?_ (Or.inl ⟨by rfl, ?_⟩) (⟨z0, z1, z2, z3, z4, z5, z6, z7, z8, z9, z10, z11, z12, z13, z14, z15, z16, z17, z18, z19⟩) ?_
               rotate_left 1
               · intro u
                 go_simp
                 try simp only [d1]
                 try simp only [d2]
                 try simp only [d3]
                 try with_reducible rfl
               simp only [Act.put, List.setIfInBounds_toArray, List.set_cons_zero, List.set_cons_succ])
            | (refine mv_free _ (Or.inr ⟨by rfl, rfl⟩) (⟨z0, z1, z2, z3, z4, z5, z6, z7, z8, z9, z10, z11, z12, z13, z14, z15, z16, z17, z18, z19⟩) ?_
               simp only [Act.put, List.setIfInBounds_toArray, List.set_cons_zero, List.set_cons_succ])
        iterate 1
          first
            | (refine mv_take ?_ (Or.inl ⟨by rfl, ?_⟩) (⟨z0, z1, z2, z3, z4, z5, z6, z7, z8, z9, z10, z11, z12, z13, z14, z15, z16, z17, z18, z19⟩) ?_
               rotate_left 1
               · intro u hu
                 (try dsimp only at hu)
                 go_simp
                 try with_reducible rfl
               simp only [Act.put, List.setIfInBounds_toArray, List.set_cons_zero, List.set_cons_succ])
            | (refine mv_take _ (Or.inr ⟨by rfl, rfl⟩) (⟨z0, z1, z2, z3, z4, z5, z6, z7, z8, z9, z10, z11, z12, z13, z14, z15, z16, z17, z18, z19⟩) ?_
               simp only [Act.put, List.setIfInBounds_toArray, List.set_cons_zero, List.set_cons_succ])
        refine mv_step (fun K hK => ?_)
        go_simp
        refine (A1.out _ hHb9.out.drew).mono ?_
        rintro e w10 ⟨rfl, rfl⟩
        go_wp2_with fail
        refine hK.out _ _ _ (fun u hu => hu) (⟨z0, z1, z2, z3, z4, z5, z6, z7, z8, z9, z10, z11, z12, z13, z14, z15, z16, z17, z18, z19⟩) ?_
        clear hK K
        iterate 5
          first
            | (refine mv_free ?_ (Or.inl ⟨by rfl, ?_⟩) (⟨z0, z1, z2, z3, z4, z5, z6, z7, z8, z9, z10, z11, z12, z13, z14, z15, z16, z17, z18, z19⟩) ?_
               rotate_left 1
               · intro u
                 go_simp
                 try simp only [d1]
                 try simp only [d2]
                 try simp only [d3]
                 try with_reducible rfl
               simp only [Act.put, List.setIfInBounds_toArray, List.set_cons_zero, List.set_cons_succ])
            | (refine mv_free _ (Or.inr ⟨by rfl, rfl⟩) (⟨z0, z1, z2, z3, z4, z5, z6, z7, z8, z9, z10, z11, z12, z13, z14, z15, z16, z17, z18, z19⟩) ?_
               simp only [Act.put, List.setIfInBounds_toArray, List.set_cons_zero, List.set_cons_succ])
        iterate 1
          first
            | (refine mv_take ?_ (Or.inl ⟨by rfl, ?_⟩) (⟨z0, z1, z2, z3, z4, z5, z6, z7, z8, z9, z10, z11, z12, z13, z14, z15, z16, z17, z18, z19⟩) ?_
               rotate_left 1
               · intro u hu
                 (try dsimp only at hu)
                 go_simp
                 try with_reducible rfl
               simp only [Act.put, List.setIfInBounds_toArray, List.set_cons_zero, List.set_cons_succ])
            | (refine mv_take _ (Or.inr ⟨by rfl, rfl⟩) (⟨z0, z1, z2, z3, z4, z5, z6, z7, z8, z9, z10, z11, z12, z13, z14, z15, z16, z17, z18, z19⟩) ?_
               simp only [Act.put, List.setIfInBounds_toArray, List.set_cons_zero, List.set_cons_succ])
        iterate 2
          first
            | (refine mv_free ?_ (Or.inl ⟨by rfl, ?_⟩) (⟨z0, z1, z2, z3, z4, z5, z6, z7, z8, z9, z10, z11, z12, z13, z14, z15, z16, z17, z18, z19⟩) ?_
               rotate_left 1
               · intro u
                 go_simp
                 try simp only [d1]
                 try simp only [d2]
                 try simp only [d3]
                 try with_reducible rfl
               simp only [Act.put, List.setIfInBounds_toArray, List.set_cons_zero, List.set_cons_succ])
            | (refine mv_free _ (Or.inr ⟨by rfl, rfl⟩) (⟨z0, z1, z2, z3, z4, z5, z6, z7, z8, z9, z10, z11, z12, z13, z14, z15, z16, z17, z18, z19⟩) ?_
               simp only [Act.put, List.setIfInBounds_toArray, List.set_cons_zero, List.set_cons_succ])
        refine mv_step (fun K hK => ?_)
        go_simp
        refine (A2.out _ hHb9.out.drew).mono ?_
        rintro e w11 ⟨rfl, rfl⟩
        go_wp2_with fail
        refine hK.out _ _ _ (fun u hu => hu) (⟨z0, z1, z2, z3, z4, z5, z6, z7, z8, z9, z10, z11, z12, z13, z14, z15, z16, z17, z18, z19⟩) ?_
        clear hK K
        iterate 2
          first
            | (refine mv_free ?_ (Or.inl ⟨by rfl, ?_⟩) (⟨z0, z1, z2, z3, z4, z5, z6, z7, z8, z9, z10, z11, z12, z13, z14, z15, z16, z17, z18, z19⟩) ?_
               rotate_left 1
               · intro u
                 go_simp
                 try simp only [d1]
                 try simp only [d2]
                 try simp only [d3]
                 try with_reducible rfl
               simp only [Act.put, List.setIfInBounds_toArray, List.set_cons_zero, List.set_cons_succ])
            | (refine mv_free _ (Or.inr ⟨by rfl, rfl⟩) (⟨z0, z1, z2, z3, z4, z5, z6, z7, z8, z9, z10, z11, z12, z13, z14, z15, z16, z17, z18, z19⟩) ?_
               simp only [Act.put, List.setIfInBounds_toArray, List.set_cons_zero, List.set_cons_succ])
        refine mv_done ?_
        go_wp2
        go_roundw
        case rel => exact ⟨k + 1, i1, s1, y1, t1, kn1, ag1, ta1, re1, by omega, by go_num, hb9.drew.drew, Lib.hid ⟨hHb9.out.drew.drew, hHm9.out.drew.drew, hst1.out⟩⟩
        case measure => simp [intOf]; omega
      · have c8 := hX _ hb
        by_cases hx0 : x0 = 0
        · subst hx0
          obtain ⟨f0, f1, f2, f3, ee, i1, s1, y1, t1, kn1, ag1, ta1, re1, BB⟩ := both_step id pa R (some ⟨br, or_, none⟩) C k 0 0 0 0 false 0 ta re hk100 ⟨by omega, by omega, hst.t0, hst.r0⟩ hRL hRB.out
          have hst1 := Lib.hid BB.bd
          have S1 := BB.one
          have S2 := BB.two
          rw [← en] at S1 S2
          replace S1 := Lib.hid S1
          replace S2 := Lib.hid S2
          clear BB hst
          replace en := Lib.hid en
          have REx := Lib.hid (RE.out b _ _ _ _ _ _ _ _ _ hHb)
          go_wp2_with fail
          refine REx.out.mono ?_
          rintro e w2 ⟨rfl, hHb2, bs2⟩
          have hb2 := hb.trans (bs2.below hbm.out.1 hb.size)
          have hHm2 := hHm.beside bs2 (by have := hbm.out; omega)
          clear hb hHb hHm bs2 c8 c9 REx
          obtain ⟨U, eU, hHm, hOm⟩ : ∃ u, u = (((((w2.setCell ⟨m, 1, none⟩ (.int .i64 0)).setCell ⟨m, 6, none⟩ (.bool false)).setCell ⟨m, 2, none⟩ (.int .i64 0)).setCell ⟨m, 3, none⟩ (.int .i64 0)).setCell ⟨m, 4, none⟩ (.int .i64 0)).setCell ⟨m, 5, none⟩ (.int .i64 0) ∧ Held m (rlC id 0 0 0 0 0 false ta re) u ∧ Only m w2 u := ⟨_, rfl, (((((hHm2.set 1 _ (by simp [rlC])).set 6 _ (by simp [rlC])).set 2 _ (by simp [rlC])).set 3 _ (by simp [rlC])).set 4 _ (by simp [rlC])).set 5 _ (by simp [rlC]), (((((((Only.refl m w2).setCell (p := ⟨m, 1, none⟩) _).setCell (p := ⟨m, 6, none⟩) _).setCell (p := ⟨m, 2, none⟩) _).setCell (p := ⟨m, 3, none⟩) _).setCell (p := ⟨m, 4, none⟩) _).setCell (p := ⟨m, 5, none⟩) _)⟩
          have hHb := hHb2.only hOm (by have := hbm.out; omega)
          have hb := hb2.trans (hOm.below hbm.out.2.2)
          replace hHm := Lib.hid hHm
          replace hHb := Lib.hid hHb
          replace hb := Lib.hid hb
          obtain ⟨c0, g0⟩ := hHm2.one 0 rfl
          obtain ⟨c1, g1⟩ := hHm2.one 1 rfl
          obtain ⟨c2, g2⟩ := hHm2.one 2 rfl
          obtain ⟨c3, g3⟩ := hHm2.one 3 rfl
          obtain ⟨c4, g4⟩ := hHm2.one 4 rfl
          obtain ⟨c5, g5⟩ := hHm2.one 5 rfl
          obtain ⟨c6, g6⟩ := hHm2.one 6 rfl
          obtain ⟨c7, g7⟩ := hHm2.one 7 rfl
          obtain ⟨c8, g8⟩ := hHm2.one 8 rfl
          clear hHm2 hHb2 hb2 hOm
          replace eU := Lib.hid eU
          go_upto_region 13 with (fail)
          rw [← eU.out]
          clear c0 g0 c1 g1 c2 g2 c3 g3 c4 g4 c5 g5 c6 g6 c7 g7 c8 g8
          replace hHm := hHm.out
          replace hHb := hHb.out
          replace hb := hb.out
          have c9 := C9.out _ hb
          try replace en := Lib.hid en
          go_wp2_with fail
          refine (S1.out b _ hHb (RW.out _ hb) hneb.out).mono ?_
          rintro e w3 ⟨rfl, hHb3, bs3⟩
          have hb3 := hb.trans (bs3.below hbm.out.1 hb.size)
          have hHm3 := hHm.beside bs3 (by have := hbm.out; omega)
          clear hHb hHm hb bs3 S1
          go_upto_region 14 with (fail)
          obtain ⟨V3, eV3, hm3, hF3, hz3⟩ := f4_alloc w3 f0 f1 f2 f3
          rw [← eV3]
          replace eV3 := Lib.hid eV3
          have hb4 := hb3.trans (hm3.mono hb3.size)
          have hHb4 := hHb3.bel hm3
          have hHm4 := hHm3.bel hm3
          have hlm := hHm3.lt
          obtain ⟨p1, ep1⟩ : ∃ p, p = w3.heap.size := ⟨_, rfl⟩
          rw [← ep1] at hF3 ⊢
          have hp1 := Lib.hid (show m < p1 ∧ b < p1 from by have := hbm.out; omega)
          replace ep1 := Lib.hid ep1
          clear hb3 hHb3 hHm3 hm3 hz3 hlm
          have c9 := C9.out _ hb4
          replace hF3 := Lib.hid hF3
          replace hHb4 := Lib.hid hHb4
          go_wp2_with fail
          refine (S2.out m _ hHm4 (RW.out _ hb4) hnem.out).mono ?_
          rintro e w5 ⟨rfl, hHm5, bs5⟩
          have hb5 := hb4.trans (bs5.below hbm.out.2.2 hb4.size)
          have hHb5 := hHb4.out.beside bs5 (by have := hbm.out; omega)
          have hF5 := hF3.out.beside bs5 (by have := hp1.out; omega)
          clear hHm4 hHb4 hF3 hb4 bs5 S2 c9
          go_upto_region 15 with (fail)
          obtain ⟨V5, eV5, hm5, hG5, hz5⟩ := f4_alloc w5 f0 f1 f2 f3
          rw [← eV5]
          replace eV5 := Lib.hid eV5
          have hb6 := hb5.trans (hm5.mono hb5.size)
          have hHb6 := hHb5.bel hm5
          have hHm6 := Lib.hid (hHm5.bel hm5)
          have hF6 := Lib.hid (hF5.keep hm5)
          obtain ⟨p2, ep2⟩ : ∃ p, p = w5.heap.size := ⟨_, rfl⟩
          rw [← ep2] at hG5 ⊢
          replace ep2 := Lib.hid ep2
          replace hG5 := Lib.hid hG5
          clear hb5 hHb5 hHm5 hF5 hm5 hz5
          go_wp2_with fail
          refine (LA.out b _ _ _ _ _ _ _ _ _ hHb6).mono ?_
          rintro e w7 ⟨rfl, hq7⟩
          have hb7 := hb6.trans (hq7.mono hb6.size)
          have hHb7 := hHb6.bel hq7
          have hHm7 := hHm6.out.bel hq7
          have hF7 := hF6.out.keep hq7
          have hG7 := hG5.out.keep hq7
          clear hb6 hHb6 hHm6 hF6 hG5 hq7
          go_upto_region 16 with (fail)
          obtain ⟨V7, eV7, hm7, hK7, hz7⟩ := f4_alloc w7 i1 s1 y1 t1
          rw [← eV7]
          replace eV7 := Lib.hid eV7
          have hb8 := hb7.trans (hm7.mono hb7.size)
          have hHb8 := hHb7.bel hm7
          have hHm8 := Lib.hid (hHm7.bel hm7)
          have hF8 := Lib.hid (hF7.keep hm7)
          have hG8 := Lib.hid (hG7.keep hm7)
          obtain ⟨p3, ep3⟩ : ∃ p, p = w7.heap.size := ⟨_, rfl⟩
          rw [← ep3] at hK7 ⊢
          replace ep3 := Lib.hid ep3
          replace hK7 := Lib.hid hK7
          clear hb7 hHb7 hHm7 hF7 hG7 hm7 hz7
          go_wp2_with fail
          refine (CO.out b _ _ _ _ _ _ _ _ _ hHb8).mono ?_
          rintro e w9 ⟨rfl, q9, rfl⟩
          have hb9 := below_drewN hb8 q9
          have hHb9 := hHb8.drewN q9
          have hHm9 := hHm8.out.drewN q9
          have hF9 : Fr4 p1 f0 f1 f2 f3 (V7.drewN q9) := ⟨hF8.out.c0, hF8.out.c1, hF8.out.c2, hF8.out.c3, hF8.out.f0, hF8.out.f1, hF8.out.f2, hF8.out.f3, hF8.out.lt⟩
          have hG9 : Fr4 p2 f0 f1 f2 f3 (V7.drewN q9) := ⟨hG8.out.c0, hG8.out.c1, hG8.out.c2, hG8.out.c3, hG8.out.f0, hG8.out.f1, hG8.out.f2, hG8.out.f3, hG8.out.lt⟩
          have hK9 : Fr4 p3 i1 s1 y1 t1 (V7.drewN q9) := ⟨hK7.out.c0, hK7.out.c1, hK7.out.c2, hK7.out.c3, hK7.out.f0, hK7.out.f1, hK7.out.f2, hK7.out.f3, hK7.out.lt⟩
          generalize V7.drewN q9 = X at *
          clear hb8 hHb8 hHm8 hF8 hG8 hK7 eV7
          have A1 := Lib.hid (fun u h => AG.out b i1 s1 y1 t1 kn1 ag1 ta1 re1 u h)
          have A2 := Lib.hid (fun u h => SL.out b i1 s1 y1 t1 kn1 ag1 ta1 re1 u h)
          have z0 : X.cell? ⟨p1, 0, none⟩ = some (.int .i64 f0) := hF9.c0
          have z1 : X.cell? ⟨p1, 1, none⟩ = some (.int .i64 f1) := hF9.c1
          have z2 : X.cell? ⟨p1, 2, none⟩ = some (.int .i64 f2) := hF9.c2
          have z3 : X.cell? ⟨p1, 3, none⟩ = some (.int .i64 f3) := hF9.c3
          have z4 : X.cell? ⟨p2, 0, none⟩ = some (.int .i64 f0) := hG9.c0
          have z5 : X.cell? ⟨p2, 1, none⟩ = some (.int .i64 f1) := hG9.c1
          have z6 : X.cell? ⟨p2, 2, none⟩ = some (.int .i64 f2) := hG9.c2
          have z7 : X.cell? ⟨p2, 3, none⟩ = some (.int .i64 f3) := hG9.c3
          have z8 : X.cell? ⟨p3, 0, none⟩ = some (.int .i64 i1) := hK9.c0
          have z9 : X.cell? ⟨p3, 1, none⟩ = some (.int .i64 s1) := hK9.c1
          have z10 : X.cell? ⟨p3, 2, none⟩ = some (.int .i64 y1) := hK9.c2
          have z11 : X.cell? ⟨p3, 3, none⟩ = some (.int .i64 t1) := hK9.c3
          have z12 : X.cell? ⟨m, 1, none⟩ = some (.int .i64 ag1) := hHm9.c 1 _ rfl
          have z13 : X.cell? ⟨m, 2, none⟩ = some (.int .i64 i1) := hHm9.c 2 _ rfl
          have z14 : X.cell? ⟨m, 3, none⟩ = some (.int .i64 s1) := hHm9.c 3 _ rfl
          have z15 : X.cell? ⟨m, 4, none⟩ = some (.int .i64 y1) := hHm9.c 4 _ rfl
          have z16 : X.cell? ⟨m, 5, none⟩ = some (.int .i64 t1) := hHm9.c 5 _ rfl
          have z17 : X.cell? ⟨m, 6, none⟩ = some (.bool kn1) := hHm9.c 6 _ rfl
          have z18 : X.cell? ⟨m, 7, none⟩ = some (.int .i64 ta1) := hHm9.c 7 _ rfl
          have z19 : X.cell? ⟨m, 8, none⟩ = some (.int .i64 re1) := hHm9.c 8 _ rfl
          replace hHb9 := Lib.hid hHb9
          replace hHm9 := Lib.hid hHm9
          clear hF9 hG9 hK9
          obtain ⟨sl, esl⟩ : ∃ sl, sl = decide (pa < ag1) := ⟨_, rfl⟩
          rw [← esl] at A2
          have d2 : decide (pa < ag1) = sl := esl.symm
          have d3 : (sl != sl) = false := by simp
          replace esl := Lib.hid esl
          go_wp2_with fail
          refine region_moves (fun u => u.cell? ⟨p1, 0, none⟩ = some (.int .i64 f0) ∧ u.cell? ⟨p1, 1, none⟩ = some (.int .i64 f1) ∧ u.cell? ⟨p1, 2, none⟩ = some (.int .i64 f2) ∧ u.cell? ⟨p1, 3, none⟩ = some (.int .i64 f3) ∧ u.cell? ⟨p2, 0, none⟩ = some (.int .i64 f0) ∧ u.cell? ⟨p2, 1, none⟩ = some (.int .i64 f1) ∧ u.cell? ⟨p2, 2, none⟩ = some (.int .i64 f2) ∧ u.cell? ⟨p2, 3, none⟩ = some (.int .i64 f3) ∧ u.cell? ⟨p3, 0, none⟩ = some (.int .i64 i1) ∧ u.cell? ⟨p3, 1, none⟩ = some (.int .i64 s1) ∧ u.cell? ⟨p3, 2, none⟩ = some (.int .i64 y1) ∧ u.cell? ⟨p3, 3, none⟩ = some (.int .i64 t1) ∧ u.cell? ⟨m, 1, none⟩ = some (.int .i64 ag1) ∧ u.cell? ⟨m, 2, none⟩ = some (.int .i64 i1) ∧ u.cell? ⟨m, 3, none⟩ = some (.int .i64 s1) ∧ u.cell? ⟨m, 4, none⟩ = some (.int .i64 y1) ∧ u.cell? ⟨m, 5, none⟩ = some (.int .i64 t1) ∧ u.cell? ⟨m, 6, none⟩ = some (.bool kn1) ∧ u.cell? ⟨m, 7, none⟩ = some (.int .i64 ta1) ∧ u.cell? ⟨m, 8, none⟩ = some (.int .i64 re1)) [] [(.take, 0), (.take, 1), (.free, 2), (.free, 3), (.free, 4), (.free, 5), (.free, 6), (.free, 7), (.free, 8), (.take, 9), (.free, 10), (.take, 11), (.free, 12), (.free, 13), (.free, 14), (.free, 15), (.free, 16), (.take, 17), (.free, 18), (.free, 19), (.free, 20), (.free, 21), (.free, 22), (.take, 23), (.free, 24), (.free, 25), (.free, 26), (.free, 27), (.free, 28), (.take, 29), (.free, 30), (.free, 31), (.free, 32), (.free, 33), (.free, 35), (.take, 36), (.step, 34), (.free, 37), (.free, 38), (.free, 39), (.free, 40), (.free, 42), (.take, 43), (.free, 44), (.free, 45), (.step, 41), (.free, 46), (.free, 47)] _ (by kernel_rfl) (by kernel_rfl) (by kernel_rfl) (by kernel_rfl) (by decide) rfl (fun _ _ _ _ _ h => h) ?_
          simp only [List.filterMap_cons, List.filterMap_nil, List.getElem?_toArray, List.getElem?_cons_zero, List.getElem?_cons_succ, Option.map_some]
          iterate 2
            first
              | (refine mv_take ?_ (Or.inl ⟨by rfl, ?_⟩) (⟨z0, z1, z2, z3, z4, z5, z6, z7, z8, z9, z10, z11, z12, z13, z14, z15, z16, z17, z18, z19⟩) ?_
                 rotate_left 1
                 · intro u hu
                   (try dsimp only at hu)
                   go_simp
                   try with_reducible rfl
                 simp only [Act.put, List.setIfInBounds_toArray, List.set_cons_zero, List.set_cons_succ])
              | (refine mv_take _ (Or.inr ⟨by rfl, rfl⟩) (⟨z0, z1, z2, z3, z4, z5, z6, z7, z8, z9, z10, z11, z12, z13, z14, z15, z16, z17, z18, z19⟩) ?_
                 simp only [Act.put, List.setIfInBounds_toArray, List.set_cons_zero, List.set_cons_succ])
          iterate 7
            first
              | (refine mv_free ?_ (Or.inl ⟨by rfl, ?_⟩) (⟨z0, z1, z2, z3, z4, z5, z6, z7, z8, z9, z10, z11, z12, z13, z14, z15, z16, z17, z18, z19⟩) ?_
                 rotate_left 1
                 · intro u
                   go_simp
                   try simp only [d1]
                   try simp only [d2]
                   try simp only [d3]
                   try with_reducible rfl
                 simp only [Act.put, List.setIfInBounds_toArray, List.set_cons_zero, List.set_cons_succ])
              | (refine mv_free _ (Or.inr ⟨by rfl, rfl⟩) (⟨z0, z1, z2, z3, z4, z5, z6, z7, z8, z9, z10, z11, z12, z13, z14, z15, z16, z17, z18, z19⟩) ?_
                 simp only [Act.put, List.setIfInBounds_toArray, List.set_cons_zero, List.set_cons_succ])
          iterate 1
            first
              | (refine mv_take ?_ (Or.inl ⟨by rfl, ?_⟩) (⟨z0, z1, z2, z3, z4, z5, z6, z7, z8, z9, z10, z11, z12, z13, z14, z15, z16, z17, z18, z19⟩) ?_
                 rotate_left 1
                 · intro u hu
                   (try dsimp only at hu)
                   go_simp
                   try with_reducible rfl
                 simp only [Act.put, List.setIfInBounds_toArray, List.set_cons_zero, List.set_cons_succ])
              | (refine mv_take _ (Or.inr ⟨by rfl, rfl⟩) (⟨z0, z1, z2, z3, z4, z5, z6, z7, z8, z9, z10, z11, z12, z13, z14, z15, z16, z17, z18, z19⟩) ?_
                 simp only [Act.put, List.setIfInBounds_toArray, List.set_cons_zero, List.set_cons_succ])
          iterate 1
            first
              | (refine mv_free ?_ (Or.inl ⟨by rfl, ?_⟩) (⟨z0, z1, z2, z3, z4, z5, z6, z7, z8, z9, z10, z11, z12, z13, z14, z15, z16, z17, z18, z19⟩) ?_
                 rotate_left 1
                 · intro u
                   go_simp
                   try simp only [d1]
                   try simp only [d2]
                   try simp only [d3]
                   try with_reducible rfl
                 simp only [Act.put, List.setIfInBounds_toArray, List.set_cons_zero, List.set_cons_succ])
              | (refine mv_free _ (Or.inr ⟨by rfl, rfl⟩) (⟨z0, z1, z2, z3, z4, z5, z6, z7, z8, z9, z10, z11, z12, z13, z14, z15, z16, z17, z18, z19⟩) ?_
                 simp only [Act.put, List.setIfInBounds_toArray, List.set_cons_zero, List.set_cons_succ])
          iterate 1
            first
              | (refine mv_take ?_ (Or.inl ⟨by rfl, ?_⟩) (⟨z0, z1, z2, z3, z4, z5, z6, z7, z8, z9, z10, z11, z12, z13, z14, z15, z16, z17, z18, z19⟩) ?_
                 rotate_left 1
                 · intro u hu
                   (try dsimp only at hu)
                   go_simp
                   try with_reducible rfl
                 simp only [Act.put, List.setIfInBounds_toArray, List.set_cons_zero, List.set_cons_succ])
              | (refine mv_take _ (Or.inr ⟨by rfl, rfl⟩) (⟨z0, z1, z2, z3, z4, z5, z6, z7, z8, z9, z10, z11, z12, z13, z14, z15, z16, z17, z18, z19⟩) ?_
                 simp only [Act.put, List.setIfInBounds_toArray, List.set_cons_zero, List.set_cons_succ])
          iterate 5
            first
              | (refine mv_free ?_ (Or.inl ⟨by rfl, ?_⟩) (⟨z0, z1, z2, z3, z4, z5, z6, z7, z8, z9, z10, z11, z12, z13, z14, z15, z16, z17, z18, z19⟩) ?_
                 rotate_left 1
                 · intro u
                   go_simp
                   try simp only [d1]
                   try simp only [d2]
                   try simp only [d3]
                   try with_reducible rfl
                 simp only [Act.put, List.setIfInBounds_toArray, List.set_cons_zero, List.set_cons_succ])
              | (refine mv_free _ (Or.inr ⟨by rfl, rfl⟩) (⟨z0, z1, z2, z3, z4, z5, z6, z7, z8, z9, z10, z11, z12, z13, z14, z15, z16, z17, z18, z19⟩) ?_
                 simp only [Act.put, List.setIfInBounds_toArray, List.set_cons_zero, List.set_cons_succ])
          iterate 1
            first
              | (refine mv_take ?_ (Or.inl ⟨by rfl, ?_⟩) (⟨z0, z1, z2, z3, z4, z5, z6, z7, z8, z9, z10, z11, z12, z13, z14, z15, z16, z17, z18, z19⟩) ?_
                 rotate_left 1
                 · intro u hu
                   (try dsimp only at hu)
                   go_simp
                   try with_reducible rfl
                 simp only [Act.put, List.setIfInBounds_toArray, List.set_cons_zero, List.set_cons_succ])
              | (refine mv_take _ (Or.inr ⟨by rfl, rfl⟩) (⟨z0, z1, z2, z3, z4, z5, z6, z7, z8, z9, z10, z11, z12, z13, z14, z15, z16, z17, z18, z19⟩) ?_
                 simp only [Act.put, List.setIfInBounds_toArray, List.set_cons_zero, List.set_cons_succ])
          iterate 5
            first
              | (refine mv_free ?_ (Or.inl ⟨by rfl, ?_⟩) (⟨z0, z1, z2, z3, z4, z5, z6, z7, z8, z9, z10, z11, z12, z13, z14, z15, z16, z17, z18, z19⟩) ?_
                 rotate_left 1
                 · intro u
                   go_simp
                   try simp only [d1]
                   try simp only [d2]
                   try simp only [d3]
                   try with_reducible rfl
                 simp only [Act.put, List.setIfInBounds_toArray, List.set_cons_zero, List.set_cons_succ])
              | (refine mv_free _ (Or.inr ⟨by rfl, rfl⟩) (⟨z0, z1, z2, z3, z4, z5, z6, z7, z8, z9, z10, z11, z12, z13, z14, z15, z16, z17, z18, z19⟩) ?_
                 simp only [Act.put, List.setIfInBounds_toArray, List.set_cons_zero, List.set_cons_succ])
          iterate 1
            first
              | (refine mv_take ?_ (Or.inl ⟨by rfl, ?_⟩) (⟨z0, z1, z2, z3, z4, z5, z6, z7, z8, z9, z10, z11, z12, z13, z14, z15, z16, z17, z18, z19⟩) ?_
                 rotate_left 1
                 · intro u hu
                   (try dsimp only at hu)
                   go_simp
                   try with_reducible rfl
                 simp only [Act.put, List.setIfInBounds_toArray, List.set_cons_zero, List.set_cons_succ])
              | (refine mv_take _ (Or.inr ⟨by rfl, rfl⟩) (⟨z0, z1, z2, z3, z4, z5, z6, z7, z8, z9, z10, z11, z12, z13, z14, z15, z16, z17, z18, z19⟩) ?_
                 simp only [Act.put, List.setIfInBounds_toArray, List.set_cons_zero, List.set_cons_succ])
          iterate 5
            first
              | (refine mv_free ?_ (Or.inl ⟨by rfl, ?_⟩) (⟨z0, z1, z2, z3, z4, z5, z6, z7, z8, z9, z10, z11, z12, z13, z14, z15, z16, z17, z18, z19⟩) ?_
                 rotate_left 1
                 · intro u
                   go_simp
                   try simp only [d1]
                   try simp only [d2]
                   try simp only [d3]
                   try with_reducible rfl
                 simp only [Act.put, List.setIfInBounds_toArray, List.set_cons_zero, List.set_cons_succ])
              | (refine mv_free _ (Or.inr ⟨by rfl, rfl⟩) (⟨z0, z1, z2, z3, z4, z5, z6, z7, z8, z9, z10, z11, z12, z13, z14, z15, z16, z17, z18, z19⟩) ?_
                 simp only [Act.put, List.setIfInBounds_toArray, List.set_cons_zero, List.set_cons_succ])
          iterate 1
            first
              | (refine mv_take ?_ (Or.inl ⟨by rfl, ?_⟩) (⟨z0, z1, z2, z3, z4, z5, z6, z7, z8, z9, z10, z11, z12, z13, z14, z15, z16, z17, z18, z19⟩) ?_
                 rotate_left 1
                 · intro u hu
                   (try dsimp only at hu)
                   go_simp
                   try with_reducible rfl
                 simp only [Act.put, List.setIfInBounds_toArray, List.set_cons_zero, List.set_cons_succ])
              | (refine mv_take _ (Or.inr ⟨by rfl, rfl⟩) (⟨z0, z1, z2, z3, z4, z5, z6, z7, z8, z9, z10, z11, z12, z13, z14, z15, z16, z17, z18, z19⟩) ?_
                 simp only [Act.put, List.setIfInBounds_toArray, List.set_cons_zero, List.set_cons_succ])
          iterate 5
            first
              | (refine mv_free ?_ (Or.inl ⟨by rfl, ?_⟩) (⟨z0, z1, z2, z3, z4, z5, z6, z7, z8, z9, z10, z11, z12, z13, z14, z15, z16, z17, z18, z19⟩) ?_
                 rotate_left 1
                 · intro u
                   go_simp
                   try simp only [d1]
                   try simp only [d2]
                   try simp only [d3]
                   try with_reducible rfl
                 simp only [Act.put, List.setIfInBounds_toArray, List.set_cons_zero, List.set_cons_succ])
              | (refine mv_free _ (Or.inr ⟨by rfl, rfl⟩) (⟨z0, z1, z2, z3, z4, z5, z6, z7, z8, z9, z10, z11, z12, z13, z14, z15, z16, z17, z18, z19⟩) ?_
                 simp only [Act.put, List.setIfInBounds_toArray, List.set_cons_zero, List.set_cons_succ])
          iterate 1
            first
              | (refine mv_take ?_ (Or.inl ⟨by rfl, ?_⟩) (⟨z0, z1, z2, z3, z4, z5, z6, z7, z8, z9, z10, z11, z12, z13, z14, z15, z16, z17, z18, z19⟩) ?_
                 rotate_left 1
                 · intro u hu
                   (try dsimp only at hu)
                   go_simp
                   try with_reducible rfl
                 simp only [Act.put, List.setIfInBounds_toArray, List.set_cons_zero, List.set_cons_succ])
              | (refine mv_take _ (Or.inr ⟨by rfl, rfl⟩) (⟨z0, z1, z2, z3, z4, z5, z6, z7, z8, z9, z10, z11, z12, z13, z14, z15, z16, z17, z18, z19⟩) ?_
                 simp only [Act.put, List.setIfInBounds_toArray, List.set_cons_zero, List.set_cons_succ])
          refine mv_step (fun K hK => ?_)
          go_simp
          refine (A1.out _ hHb9.out.drew).mono ?_
          rintro e w10 ⟨rfl, rfl⟩
          go_wp2_with fail
          refine hK.out _ _ _ (fun u hu => hu) (⟨z0, z1, z2, z3, z4, z5, z6, z7, z8, z9, z10, z11, z12, z13, z14, z15, z16, z17, z18, z19⟩) ?_
          clear hK K
          iterate 5
            first
              | (refine mv_free ?_ (Or.inl ⟨by rfl, ?_⟩) (⟨z0, z1, z2, z3, z4, z5, z6, z7, z8, z9, z10, z11, z12, z13, z14, z15, z16, z17, z18, z19⟩) ?_
                 rotate_left 1
                 · intro u
                   go_simp
                   try simp only [d1]
                   try simp only [d2]
                   try simp only [d3]
                   try with_reducible rfl
                 simp only [Act.put, List.setIfInBounds_toArray, List.set_cons_zero, List.set_cons_succ])
              | (refine mv_free _ (Or.inr ⟨by rfl, rfl⟩) (⟨z0, z1, z2, z3, z4, z5, z6, z7, z8, z9, z10, z11, z12, z13, z14, z15, z16, z17, z18, z19⟩) ?_
                 simp only [Act.put, List.setIfInBounds_toArray, List.set_cons_zero, List.set_cons_succ])
          iterate 1
            first
              | (refine mv_take ?_ (Or.inl ⟨by rfl, ?_⟩) (⟨z0, z1, z2, z3, z4, z5, z6, z7, z8, z9, z10, z11, z12, z13, z14, z15, z16, z17, z18, z19⟩) ?_
                 rotate_left 1
                 · intro u hu
                   (try dsimp only at hu)
                   go_simp
                   try with_reducible rfl
                 simp only [Act.put, List.setIfInBounds_toArray, List.set_cons_zero, List.set_cons_succ])
              | (refine mv_take _ (Or.inr ⟨by rfl, rfl⟩) (⟨z0, z1, z2, z3, z4, z5, z6, z7, z8, z9, z10, z11, z12, z13, z14, z15, z16, z17, z18, z19⟩) ?_
                 simp only [Act.put, List.setIfInBounds_toArray, List.set_cons_zero, List.set_cons_succ])
          iterate 2
            first
              | (refine mv_free ?_ (Or.inl ⟨by rfl, ?_⟩) (⟨z0, z1, z2, z3, z4, z5, z6, z7, z8, z9, z10, z11, z12, z13, z14, z15, z16, z17, z18, z19⟩) ?_
                 rotate_left 1
                 · intro u
                   go_simp
                   try simp only [d1]
                   try simp only [d2]
                   try simp only [d3]
                   try with_reducible rfl
                 simp only [Act.put, List.setIfInBounds_toArray, List.set_cons_zero, List.set_cons_succ])
              | (refine mv_free _ (Or.inr ⟨by rfl, rfl⟩) (⟨z0, z1, z2, z3, z4, z5, z6, z7, z8, z9, z10, z11, z12, z13, z14, z15, z16, z17, z18, z19⟩) ?_
                 simp only [Act.put, List.setIfInBounds_toArray, List.set_cons_zero, List.set_cons_succ])
          refine mv_step (fun K hK => ?_)
          go_simp
          refine (A2.out _ hHb9.out.drew).mono ?_
          rintro e w11 ⟨rfl, rfl⟩
          go_wp2_with fail
          refine hK.out _ _ _ (fun u hu => hu) (⟨z0, z1, z2, z3, z4, z5, z6, z7, z8, z9, z10, z11, z12, z13, z14, z15, z16, z17, z18, z19⟩) ?_
          clear hK K
          iterate 2
            first
              | (refine mv_free ?_ (Or.inl ⟨by rfl, ?_⟩) (⟨z0, z1, z2, z3, z4, z5, z6, z7, z8, z9, z10, z11, z12, z13, z14, z15, z16, z17, z18, z19⟩) ?_
                 rotate_left 1
                 · intro u
                   go_simp
                   try simp only [d1]
                   try simp only [d2]
                   try simp only [d3]
                   try with_reducible rfl
                 simp only [Act.put, List.setIfInBounds_toArray, List.set_cons_zero, List.set_cons_succ])
              | (refine mv_free _ (Or.inr ⟨by rfl, rfl⟩) (⟨z0, z1, z2, z3, z4, z5, z6, z7, z8, z9, z10, z11, z12, z13, z14, z15, z16, z17, z18, z19⟩) ?_
                 simp only [Act.put, List.setIfInBounds_toArray, List.set_cons_zero, List.set_cons_succ])
          refine mv_done ?_
          go_wp2
          go_roundw
          case rel => exact ⟨k + 1, i1, s1, y1, t1, kn1, ag1, ta1, re1, by omega, by go_num, hb9.drew.drew, Lib.hid ⟨hHb9.out.drew.drew, hHm9.out.drew.drew, hst1.out⟩⟩
          case measure => simp [intOf]; omega
        · have d1 : (x0 == 0) = false := by simp [hx0]
          obtain ⟨f0, f1, f2, f3, ee, i1, s1, y1, t1, kn1, ag1, ta1, re1, BB⟩ := both_step id pa R (some ⟨br, or_, none⟩) C k i s y t kn ag ta re hk100 hst hRL hRB.out
          have hst1 := Lib.hid BB.bd
          have S1 := BB.one
          have S2 := BB.two
          rw [← en] at S1 S2
          replace S1 := Lib.hid S1
          replace S2 := Lib.hid S2
          clear BB
          clear hst hRL
          try replace en := Lib.hid en
          go_wp2_with fail
          refine (S1.out b _ hHb (RW.out _ hb) hneb.out).mono ?_
          rintro e w3 ⟨rfl, hHb3, bs3⟩
          have hb3 := hb.trans (bs3.below hbm.out.1 hb.size)
          have hHm3 := hHm.beside bs3 (by have := hbm.out; omega)
          clear hHb hHm hb bs3 S1
          go_upto_region 14 with (fail)
          obtain ⟨V3, eV3, hm3, hF3, hz3⟩ := f4_alloc w3 f0 f1 f2 f3
          rw [← eV3]
          replace eV3 := Lib.hid eV3
          have hb4 := hb3.trans (hm3.mono hb3.size)
          have hHb4 := hHb3.bel hm3
          have hHm4 := hHm3.bel hm3
          have hlm := hHm3.lt
          obtain ⟨p1, ep1⟩ : ∃ p, p = w3.heap.size := ⟨_, rfl⟩
          rw [← ep1] at hF3 ⊢
          have hp1 := Lib.hid (show m < p1 ∧ b < p1 from by have := hbm.out; omega)
          replace ep1 := Lib.hid ep1
          clear hb3 hHb3 hHm3 hm3 hz3 hlm
          have c9 := C9.out _ hb4
          replace hF3 := Lib.hid hF3
          replace hHb4 := Lib.hid hHb4
          go_wp2_with fail
          refine (S2.out m _ hHm4 (RW.out _ hb4) hnem.out).mono ?_
          rintro e w5 ⟨rfl, hHm5, bs5⟩
          have hb5 := hb4.trans (bs5.below hbm.out.2.2 hb4.size)
          have hHb5 := hHb4.out.beside bs5 (by have := hbm.out; omega)
          have hF5 := hF3.out.beside bs5 (by have := hp1.out; omega)
          clear hHm4 hHb4 hF3 hb4 bs5 S2 c9
          go_upto_region 15 with (fail)
          obtain ⟨V5, eV5, hm5, hG5, hz5⟩ := f4_alloc w5 f0 f1 f2 f3
          rw [← eV5]
          replace eV5 := Lib.hid eV5
          have hb6 := hb5.trans (hm5.mono hb5.size)
          have hHb6 := hHb5.bel hm5
          have hHm6 := Lib.hid (hHm5.bel hm5)
          have hF6 := Lib.hid (hF5.keep hm5)
          obtain ⟨p2, ep2⟩ : ∃ p, p = w5.heap.size := ⟨_, rfl⟩
          rw [← ep2] at hG5 ⊢
          replace ep2 := Lib.hid ep2
          replace hG5 := Lib.hid hG5
          clear hb5 hHb5 hHm5 hF5 hm5 hz5
          go_wp2_with fail
          refine (LA.out b _ _ _ _ _ _ _ _ _ hHb6).mono ?_
          rintro e w7 ⟨rfl, hq7⟩
          have hb7 := hb6.trans (hq7.mono hb6.size)
          have hHb7 := hHb6.bel hq7
          have hHm7 := hHm6.out.bel hq7
          have hF7 := hF6.out.keep hq7
          have hG7 := hG5.out.keep hq7
          clear hb6 hHb6 hHm6 hF6 hG5 hq7
          go_upto_region 16 with (fail)
          obtain ⟨V7, eV7, hm7, hK7, hz7⟩ := f4_alloc w7 i1 s1 y1 t1
          rw [← eV7]
          replace eV7 := Lib.hid eV7
          have hb8 := hb7.trans (hm7.mono hb7.size)
          have hHb8 := hHb7.bel hm7
          have hHm8 := Lib.hid (hHm7.bel hm7)
          have hF8 := Lib.hid (hF7.keep hm7)
          have hG8 := Lib.hid (hG7.keep hm7)
          obtain ⟨p3, ep3⟩ : ∃ p, p = w7.heap.size := ⟨_, rfl⟩
          rw [← ep3] at hK7 ⊢
          replace ep3 := Lib.hid ep3
          replace hK7 := Lib.hid hK7
          clear hb7 hHb7 hHm7 hF7 hG7 hm7 hz7
          go_wp2_with fail
          refine (CO.out b _ _ _ _ _ _ _ _ _ hHb8).mono ?_
          rintro e w9 ⟨rfl, q9, rfl⟩
          have hb9 := below_drewN hb8 q9
          have hHb9 := hHb8.drewN q9
          have hHm9 := hHm8.out.drewN q9
          have hF9 : Fr4 p1 f0 f1 f2 f3 (V7.drewN q9) := ⟨hF8.out.c0, hF8.out.c1, hF8.out.c2, hF8.out.c3, hF8.out.f0, hF8.out.f1, hF8.out.f2, hF8.out.f3, hF8.out.lt⟩
          have hG9 : Fr4 p2 f0 f1 f2 f3 (V7.drewN q9) := ⟨hG8.out.c0, hG8.out.c1, hG8.out.c2, hG8.out.c3, hG8.out.f0, hG8.out.f1, hG8.out.f2, hG8.out.f3, hG8.out.lt⟩
          have hK9 : Fr4 p3 i1 s1 y1 t1 (V7.drewN q9) := ⟨hK7.out.c0, hK7.out.c1, hK7.out.c2, hK7.out.c3, hK7.out.f0, hK7.out.f1, hK7.out.f2, hK7.out.f3, hK7.out.lt⟩
          generalize V7.drewN q9 = X at *
          clear hb8 hHb8 hHm8 hF8 hG8 hK7 eV7
          have A1 := Lib.hid (fun u h => AG.out b i1 s1 y1 t1 kn1 ag1 ta1 re1 u h)
          have A2 := Lib.hid (fun u h => SL.out b i1 s1 y1 t1 kn1 ag1 ta1 re1 u h)
          have z0 : X.cell? ⟨p1, 0, none⟩ = some (.int .i64 f0) := hF9.c0
          have z1 : X.cell? ⟨p1, 1, none⟩ = some (.int .i64 f1) := hF9.c1
          have z2 : X.cell? ⟨p1, 2, none⟩ = some (.int .i64 f2) := hF9.c2
          have z3 : X.cell? ⟨p1, 3, none⟩ = some (.int .i64 f3) := hF9.c3
          have z4 : X.cell? ⟨p2, 0, none⟩ = some (.int .i64 f0) := hG9.c0
          have z5 : X.cell? ⟨p2, 1, none⟩ = some (.int .i64 f1) := hG9.c1
          have z6 : X.cell? ⟨p2, 2, none⟩ = some (.int .i64 f2) := hG9.c2
          have z7 : X.cell? ⟨p2, 3, none⟩ = some (.int .i64 f3) := hG9.c3
          have z8 : X.cell? ⟨p3, 0, none⟩ = some (.int .i64 i1) := hK9.c0
          have z9 : X.cell? ⟨p3, 1, none⟩ = some (.int .i64 s1) := hK9.c1
          have z10 : X.cell? ⟨p3, 2, none⟩ = some (.int .i64 y1) := hK9.c2
          have z11 : X.cell? ⟨p3, 3, none⟩ = some (.int .i64 t1) := hK9.c3
          have z12 : X.cell? ⟨m, 1, none⟩ = some (.int .i64 ag1) := hHm9.c 1 _ rfl
          have z13 : X.cell? ⟨m, 2, none⟩ = some (.int .i64 i1) := hHm9.c 2 _ rfl
          have z14 : X.cell? ⟨m, 3, none⟩ = some (.int .i64 s1) := hHm9.c 3 _ rfl
          have z15 : X.cell? ⟨m, 4, none⟩ = some (.int .i64 y1) := hHm9.c 4 _ rfl
          have z16 : X.cell? ⟨m, 5, none⟩ = some (.int .i64 t1) := hHm9.c 5 _ rfl
          have z17 : X.cell? ⟨m, 6, none⟩ = some (.bool kn1) := hHm9.c 6 _ rfl
          have z18 : X.cell? ⟨m, 7, none⟩ = some (.int .i64 ta1) := hHm9.c 7 _ rfl
          have z19 : X.cell? ⟨m, 8, none⟩ = some (.int .i64 re1) := hHm9.c 8 _ rfl
          replace hHb9 := Lib.hid hHb9
          replace hHm9 := Lib.hid hHm9
          clear hF9 hG9 hK9
          obtain ⟨sl, esl⟩ : ∃ sl, sl = decide (pa < ag1) := ⟨_, rfl⟩
          rw [← esl] at A2
          have d2 : decide (pa < ag1) = sl := esl.symm
          have d3 : (sl != sl) = false := by simp
          replace esl := Lib.hid esl
          go_wp2_with fail
          refine region_moves (fun u => u.cell? ⟨p1, 0, none⟩ = some (.int .i64 f0) ∧ u.cell? ⟨p1, 1, none⟩ = some (.int .i64 f1) ∧ u.cell? ⟨p1, 2, none⟩ = some (.int .i64 f2) ∧ u.cell? ⟨p1, 3, none⟩ = some (.int .i64 f3) ∧ u.cell? ⟨p2, 0, none⟩ = some (.int .i64 f0) ∧ u.cell? ⟨p2, 1, none⟩ = some (.int .i64 f1) ∧ u.cell? ⟨p2, 2, none⟩ = some (.int .i64 f2) ∧ u.cell? ⟨p2, 3, none⟩ = some (.int .i64 f3) ∧ u.cell? ⟨p3, 0, none⟩ = some (.int .i64 i1) ∧ u.cell? ⟨p3, 1, none⟩ = some (.int .i64 s1) ∧ u.cell? ⟨p3, 2, none⟩ = some (.int .i64 y1) ∧ u.cell? ⟨p3, 3, none⟩ = some (.int .i64 t1) ∧ u.cell? ⟨m, 1, none⟩ = some (.int .i64 ag1) ∧ u.cell? ⟨m, 2, none⟩ = some (.int .i64 i1) ∧ u.cell? ⟨m, 3, none⟩ = some (.int .i64 s1) ∧ u.cell? ⟨m, 4, none⟩ = some (.int .i64 y1) ∧ u.cell? ⟨m, 5, none⟩ = some (.int .i64 t1) ∧ u.cell? ⟨m, 6, none⟩ = some (.bool kn1) ∧ u.cell? ⟨m, 7, none⟩ = some (.int .i64 ta1) ∧ u.cell? ⟨m, 8, none⟩ = some (.int .i64 re1)) [] [(.take, 0), (.take, 1), (.free, 2), (.free, 3), (.free, 4), (.free, 5), (.free, 6), (.free, 7), (.free, 8), (.take, 9), (.free, 10), (.take, 11), (.free, 12), (.free, 13), (.free, 14), (.free, 15), (.free, 16), (.take, 17), (.free, 18), (.free, 19), (.free, 20), (.free, 21), (.free, 22), (.take, 23), (.free, 24), (.free, 25), (.free, 26), (.free, 27), (.free, 28), (.take, 29), (.free, 30), (.free, 31), (.free, 32), (.free, 33), (.free, 35), (.take, 36), (.step, 34), (.free, 37), (.free, 38), (.free, 39), (.free, 40), (.free, 42), (.take, 43), (.free, 44), (.free, 45), (.step, 41), (.free, 46), (.free, 47)] _ (by kernel_rfl) (by kernel_rfl) (by kernel_rfl) (by kernel_rfl) (by decide) rfl (fun _ _ _ _ _ h => h) ?_
          simp only [List.filterMap_cons, List.filterMap_nil, List.getElem?_toArray, List.getElem?_cons_zero, List.getElem?_cons_succ, Option.map_some]
          iterate 2
            first
              | (refine mv_take ?_ (Or.inl ⟨by rfl, ?_⟩) (⟨z0, z1, z2, z3, z4, z5, z6, z7, z8, z9, z10, z11, z12, z13, z14, z15, z16, z17, z18, z19⟩) ?_
                 rotate_left 1
                 · intro u hu
                   (try dsimp only at hu)
                   go_simp
                   try with_reducible rfl
                 simp only [Act.put, List.setIfInBounds_toArray, List.set_cons_zero, List.set_cons_succ])
              | (refine mv_take _ (Or.inr ⟨by rfl, rfl⟩) (⟨z0, z1, z2, z3, z4, z5, z6, z7, z8, z9, z10, z11, z12, z13, z14, z15, z16, z17, z18, z19⟩) ?_
                 simp only [Act.put, List.setIfInBounds_toArray, List.set_cons_zero, List.set_cons_succ])
          iterate 7
            first
              | (refine mv_free ?_ (Or.inl ⟨by rfl, ?_⟩) (⟨z0, z1, z2, z3, z4, z5, z6, z7, z8, z9, z10, z11, z12, z13, z14, z15, z16, z17, z18, z19⟩) ?_
                 rotate_left 1
                 · intro u
                   go_simp
                   try simp only [d1]
                   try simp only [d2]
                   try simp only [d3]
                   try with_reducible rfl
                 simp only [Act.put, List.setIfInBounds_toArray, List.set_cons_zero, List.set_cons_succ])
              | (refine mv_free _ (Or.inr ⟨by rfl, rfl⟩) (⟨z0, z1, z2, z3, z4, z5, z6, z7, z8, z9, z10, z11, z12, z13, z14, z15, z16, z17, z18, z19⟩) ?_
                 simp only [Act.put, List.setIfInBounds_toArray, List.set_cons_zero, List.set_cons_succ])
          iterate 1
            first
              | (refine mv_take ?_ (Or.inl ⟨by rfl, ?_⟩) (⟨z0, z1, z2, z3, z4, z5, z6, z7, z8, z9, z10, z11, z12, z13, z14, z15, z16, z17, z18, z19⟩) ?_
                 rotate_left 1
                 · intro u hu
                   (try dsimp only at hu)
                   go_simp
                   try with_reducible rfl
                 simp only [Act.put, List.setIfInBounds_toArray, List.set_cons_zero, List.set_cons_succ])
              | (refine mv_take _ (Or.inr ⟨by rfl, rfl⟩) (⟨z0, z1, z2, z3, z4, z5, z6, z7, z8, z9, z10, z11, z12, z13, z14, z15, z16, z17, z18, z19⟩) ?_
                 simp only [Act.put, List.setIfInBounds_toArray, List.set_cons_zero, List.set_cons_succ])
          iterate 1
            first
              | (refine mv_free ?_ (Or.inl ⟨by rfl, ?_⟩) (⟨z0, z1, z2, z3, z4, z5, z6, z7, z8, z9, z10, z11, z12, z13, z14, z15, z16, z17, z18, z19⟩) ?_
                 rotate_left 1
                 · intro u
                   go_simp
                   try simp only [d1]
                   try simp only [d2]
                   try simp only [d3]
                   try with_reducible rfl
                 simp only [Act.put, List.setIfInBounds_toArray, List.set_cons_zero, List.set_cons_succ])
              | (refine mv_free _ (Or.inr ⟨by rfl, rfl⟩) (⟨z0, z1, z2, z3, z4, z5, z6, z7, z8, z9, z10, z11, z12, z13, z14, z15, z16, z17, z18, z19⟩) ?_
                 simp only [Act.put, List.setIfInBounds_toArray, List.set_cons_zero, List.set_cons_succ])
          iterate 1
            first
              | (refine mv_take ?_ (Or.inl ⟨by rfl, ?_⟩) (⟨z0, z1, z2, z3, z4, z5, z6, z7, z8, z9, z10, z11, z12, z13, z14, z15, z16, z17, z18, z19⟩) ?_
                 rotate_left 1
                 · intro u hu
                   (try dsimp only at hu)
                   go_simp
                   try with_reducible rfl
                 simp only [Act.put, List.setIfInBounds_toArray, List.set_cons_zero, List.set_cons_succ])
              | (refine mv_take _ (Or.inr ⟨by rfl, rfl⟩) (⟨z0, z1, z2, z3, z4, z5, z6, z7, z8, z9, z10, z11, z12, z13, z14, z15, z16, z17, z18, z19⟩) ?_
                 simp only [Act.put, List.setIfInBounds_toArray, List.set_cons_zero, List.set_cons_succ])
          iterate 5
            first
              | (refine mv_free ?_ (Or.inl ⟨by rfl, ?_⟩) (⟨z0, z1, z2, z3, z4, z5, z6, z7, z8, z9, z10, z11, z12, z13, z14, z15, z16, z17, z18, z19⟩) ?_
                 rotate_left 1
                 · intro u
                   go_simp
                   try simp only [d1]
                   try simp only [d2]
                   try simp only [d3]
                   try with_reducible rfl
                 simp only [Act.put, List.setIfInBounds_toArray, List.set_cons_zero, List.set_cons_succ])
              | (refine mv_free _ (Or.inr ⟨by rfl, rfl⟩) (⟨z0, z1, z2, z3, z4, z5, z6, z7, z8, z9, z10, z11, z12, z13, z14, z15, z16, z17, z18, z19⟩) ?_
                 simp only [Act.put, List.setIfInBounds_toArray, List.set_cons_zero, List.set_cons_succ])
          iterate 1
            first
              | (refine mv_take ?_ (Or.inl ⟨by rfl, ?_⟩) (⟨z0, z1, z2, z3, z4, z5, z6, z7, z8, z9, z10, z11, z12, z13, z14, z15, z16, z17, z18, z19⟩) ?_
                 rotate_left 1
                 · intro u hu
                   (try dsimp only at hu)
                   go_simp
                   try with_reducible rfl
                 simp only [Act.put, List.setIfInBounds_toArray, List.set_cons_zero, List.set_cons_succ])
              | (refine mv_take _ (Or.inr ⟨by rfl, rfl⟩) (⟨z0, z1, z2, z3, z4, z5, z6, z7, z8, z9, z10, z11, z12, z13, z14, z15, z16, z17, z18, z19⟩) ?_
                 simp only [Act.put, List.setIfInBounds_toArray, List.set_cons_zero, List.set_cons_succ])
          iterate 5
            first
              | (refine mv_free ?_ (Or.inl ⟨by rfl, ?_⟩) (⟨z0, z1, z2, z3, z4, z5, z6, z7, z8, z9, z10, z11, z12, z13, z14, z15, z16, z17, z18, z19⟩) ?_
                 rotate_left 1
                 · intro u
                   go_simp
                   try simp only [d1]
                   try simp only [d2]
                   try simp only [d3]
                   try with_reducible rfl
                 simp only [Act.put, List.setIfInBounds_toArray, List.set_cons_zero, List.set_cons_succ])
              | (refine mv_free _ (Or.inr ⟨by rfl, rfl⟩) (⟨z0, z1, z2, z3, z4, z5, z6, z7, z8, z9, z10, z11, z12, z13, z14, z15, z16, z17, z18, z19⟩) ?_
                 simp only [Act.put, List.setIfInBounds_toArray, List.set_cons_zero, List.set_cons_succ])
          iterate 1
            first
              | (refine mv_take ?_ (Or.inl ⟨by rfl, ?_⟩) (⟨z0, z1, z2, z3, z4, z5, z6, z7, z8, z9, z10, z11, z12, z13, z14, z15, z16, z17, z18, z19⟩) ?_
                 rotate_left 1
                 · intro u hu
                   (try dsimp only at hu)
                   go_simp
                   try with_reducible rfl
                 simp only [Act.put, List.setIfInBounds_toArray, List.set_cons_zero, List.set_cons_succ])
              | (refine mv_take _ (Or.inr ⟨by rfl, rfl⟩) (⟨z0, z1, z2, z3, z4, z5, z6, z7, z8, z9, z10, z11, z12, z13, z14, z15, z16, z17, z18, z19⟩) ?_
                 simp only [Act.put, List.setIfInBounds_toArray, List.set_cons_zero, List.set_cons_succ])
          iterate 5
            first
              | (refine mv_free ?_ (Or.inl ⟨by rfl, ?_⟩) (⟨z0, z1, z2, z3, z4, z5, z6, z7, z8, z9, z10, z11, z12, z13, z14, z15, z16, z17, z18, z19⟩) ?_
                 rotate_left 1
                 · intro u
                   go_simp
                   try simp only [d1]
                   try simp only [d2]
                   try simp only [d3]
                   try with_reducible rfl
                 simp only [Act.put, List.setIfInBounds_toArray, List.set_cons_zero, List.set_cons_succ])
              | (refine mv_free _ (Or.inr ⟨by rfl, rfl⟩) (⟨z0, z1, z2, z3, z4, z5, z6, z7, z8, z9, z10, z11, z12, z13, z14, z15, z16, z17, z18, z19⟩) ?_
                 simp only [Act.put, List.setIfInBounds_toArray, List.set_cons_zero, List.set_cons_succ])
          iterate 1
            first
              | (refine mv_take ?_ (Or.inl ⟨by rfl, ?_⟩) (⟨z0, z1, z2, z3, z4, z5, z6, z7, z8, z9, z10, z11, z12, z13, z14, z15, z16, z17, z18, z19⟩) ?_
                 rotate_left 1
                 · intro u hu
                   (try dsimp only at hu)
                   go_simp
                   try with_reducible rfl
                 simp only [Act.put, List.setIfInBounds_toArray, List.set_cons_zero, List.set_cons_succ])
              | (refine mv_take _ (Or.inr ⟨by rfl, rfl⟩) (⟨z0, z1, z2, z3, z4, z5, z6, z7, z8, z9, z10, z11, z12, z13, z14, z15, z16, z17, z18, z19⟩) ?_
                 simp only [Act.put, List.setIfInBounds_toArray, List.set_cons_zero, List.set_cons_succ])
          iterate 5
            first
              | (refine mv_free ?_ (Or.inl ⟨by rfl, ?_⟩) (⟨z0, z1, z2, z3, z4, z5, z6, z7, z8, z9, z10, z11, z12, z13, z14, z15, z16, z17, z18, z19⟩) ?_
                 rotate_left 1
                 · intro u
                   go_simp
                   try simp only [d1]
                   try simp only [d2]
                   try simp only [d3]
                   try with_reducible rfl
                 simp only [Act.put, List.setIfInBounds_toArray, List.set_cons_zero, List.set_cons_succ])
              | (refine mv_free _ (Or.inr ⟨by rfl, rfl⟩) (⟨z0, z1, z2, z3, z4, z5, z6, z7, z8, z9, z10, z11, z12, z13, z14, z15, z16, z17, z18, z19⟩) ?_
                 simp only [Act.put, List.setIfInBounds_toArray, List.set_cons_zero, List.set_cons_succ])
          iterate 1
            first
              | (refine mv_take ?_ (Or.inl ⟨by rfl, ?_⟩) (⟨z0, z1, z2, z3, z4, z5, z6, z7, z8, z9, z10, z11, z12, z13, z14, z15, z16, z17, z18, z19⟩) ?_
                 rotate_left 1
                 · intro u hu
                   (try dsimp only at hu)
                   go_simp
                   try with_reducible rfl
                 simp only [Act.put, List.setIfInBounds_toArray, List.set_cons_zero, List.set_cons_succ])
              | (refine mv_take _ (Or.inr ⟨by rfl, rfl⟩) (⟨z0, z1, z2, z3, z4, z5, z6, z7, z8, z9, z10, z11, z12, z13, z14, z15, z16, z17, z18, z19⟩) ?_
                 simp only [Act.put, List.setIfInBounds_toArray, List.set_cons_zero, List.set_cons_succ])
          refine mv_step (fun K hK => ?_)
          go_simp
          refine (A1.out _ hHb9.out.drew).mono ?_
          rintro e w10 ⟨rfl, rfl⟩
          go_wp2_with fail
          refine hK.out _ _ _ (fun u hu => hu) (⟨z0, z1, z2, z3, z4, z5, z6, z7, z8, z9, z10, z11, z12, z13, z14, z15, z16, z17, z18, z19⟩) ?_
          clear hK K
          iterate 5
            first
              | (refine mv_free ?_ (Or.inl ⟨by rfl, ?_⟩) (⟨z0, z1, z2, z3, z4, z5, z6, z7, z8, z9, z10, z11, z12, z13, z14, z15, z16, z17, z18, z19⟩) ?_
                 rotate_left 1
                 · intro u
                   go_simp
                   try simp only [d1]
                   try simp only [d2]
                   try simp only [d3]
                   try with_reducible rfl
                 simp only [Act.put, List.setIfInBounds_toArray, List.set_cons_zero, List.set_cons_succ])
              | (refine mv_free _ (Or.inr ⟨by rfl, rfl⟩) (⟨z0, z1, z2, z3, z4, z5, z6, z7, z8, z9, z10, z11, z12, z13, z14, z15, z16, z17, z18, z19⟩) ?_
                 simp only [Act.put, List.setIfInBounds_toArray, List.set_cons_zero, List.set_cons_succ])
          iterate 1
            first
              | (refine mv_take ?_ (Or.inl ⟨by rfl, ?_⟩) (⟨z0, z1, z2, z3, z4, z5, z6, z7, z8, z9, z10, z11, z12, z13, z14, z15, z16, z17, z18, z19⟩) ?_
                 rotate_left 1
                 · intro u hu
                   (try dsimp only at hu)
                   go_simp
                   try with_reducible rfl
                 simp only [Act.put, List.setIfInBounds_toArray, List.set_cons_zero, List.set_cons_succ])
              | (refine mv_take _ (Or.inr ⟨by rfl, rfl⟩) (⟨z0, z1, z2, z3, z4, z5, z6, z7, z8, z9, z10, z11, z12, z13, z14, z15, z16, z17, z18, z19⟩) ?_
                 simp only [Act.put, List.setIfInBounds_toArray, List.set_cons_zero, List.set_cons_succ])
          iterate 2
            first
              | (refine mv_free ?_ (Or.inl ⟨by rfl, ?_⟩) (⟨z0, z1, z2, z3, z4, z5, z6, z7, z8, z9, z10, z11, z12, z13, z14, z15, z16, z17, z18, z19⟩) ?_
                 rotate_left 1
                 · intro u
                   go_simp
                   try simp only [d1]
                   try simp only [d2]
                   try simp only [d3]
                   try with_reducible rfl
                 simp only [Act.put, List.setIfInBounds_toArray, List.set_cons_zero, List.set_cons_succ])
              | (refine mv_free _ (Or.inr ⟨by rfl, rfl⟩) (⟨z0, z1, z2, z3, z4, z5, z6, z7, z8, z9, z10, z11, z12, z13, z14, z15, z16, z17, z18, z19⟩) ?_
                 simp only [Act.put, List.setIfInBounds_toArray, List.set_cons_zero, List.set_cons_succ])
          refine mv_step (fun K hK => ?_)
          go_simp
          refine (A2.out _ hHb9.out.drew).mono ?_
          rintro e w11 ⟨rfl, rfl⟩
          go_wp2_with fail
          refine hK.out _ _ _ (fun u hu => hu) (⟨z0, z1, z2, z3, z4, z5, z6, z7, z8, z9, z10, z11, z12, z13, z14, z15, z16, z17, z18, z19⟩) ?_
          clear hK K
          iterate 2
            first
              | (refine mv_free ?_ (Or.inl ⟨by rfl, ?_⟩) (⟨z0, z1, z2, z3, z4, z5, z6, z7, z8, z9, z10, z11, z12, z13, z14, z15, z16, z17, z18, z19⟩) ?_
                 rotate_left 1
                 · intro u
                   go_simp
                   try simp only [d1]
                   try simp only [d2]
                   try simp only [d3]
                   try with_reducible rfl
                 simp only [Act.put, List.setIfInBounds_toArray, List.set_cons_zero, List.set_cons_succ])
              | (refine mv_free _ (Or.inr ⟨by rfl, rfl⟩) (⟨z0, z1, z2, z3, z4, z5, z6, z7, z8, z9, z10, z11, z12, z13, z14, z15, z16, z17, z18, z19⟩) ?_
                 simp only [Act.put, List.setIfInBounds_toArray, List.set_cons_zero, List.set_cons_succ])
          refine mv_done ?_
          go_wp2
          go_roundw
          case rel => exact ⟨k + 1, i1, s1, y1, t1, kn1, ag1, ta1, re1, by omega, by go_num, hb9.drew.drew, Lib.hid ⟨hHb9.out.drew.drew, hHm9.out.drew.drew, hst1.out⟩⟩
          case measure => simp [intOf]; omega
    · have hge : (Z.length : Int) ≤ (k : Int) := by omega
      clear hS
      go_wp2_with fail
      refine (LV.out _).mono ?_
      rintro e w20 ⟨rfl, hb20⟩
      have hb21 := Lib.hid (hb.trans (hb20.mono (hb).size))
      clear hb20
      go_wp2
      go_ret
      exact ⟨rfl, hb21.out⟩
end Go.Proofs.Ytflcagcekhgjcaa
