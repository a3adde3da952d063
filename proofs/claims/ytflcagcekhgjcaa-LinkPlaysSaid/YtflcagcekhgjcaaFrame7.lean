/- The law FrameBack; walked. -/
import Derived.Test.YtflcagcekhgjcaaFrame5
import Derived.Deep.Cut
namespace Go.Proofs.Ytflcagcekhgjcaa
open Go.ChangeShapes Go.WideShapes Go.ChangeAt Go.RowKit
set_option linter.unusedVariables false
set_option linter.unusedSimpArgs false

theorem tk_no {l : List Int} (h : tkE l ≠ 0) : tkI l = 0 ∧ tkS l = 0 ∧ tkV l = 0 ∧ tkT l = 0 := by
  refine ⟨?_, ?_, ?_, ?_⟩
  · unfold tkI; rw [if_neg h]
  · unfold tkS; rw [if_neg h]
  · unfold tkV; rw [if_neg h]
  · unfold tkT; rw [if_neg h]
theorem tkE_tot {l : List Int} (h : tot l ≠ 0) : tkE l ≠ 0 := fun e => h (tkE_ok e).2.2
/-- A frame in block s, which may be written. -/
structure Fr4 (s : Nat) (a b c d : Int) (v : World) : Prop where
  c0 : v.cell? ⟨s, 0, none⟩ = some (.int .i64 a)
  c1 : v.cell? ⟨s, 1, none⟩ = some (.int .i64 b)
  c2 : v.cell? ⟨s, 2, none⟩ = some (.int .i64 c)
  c3 : v.cell? ⟨s, 3, none⟩ = some (.int .i64 d)
  f0 : v.frozen? ⟨s, 0, none⟩ = false
  f1 : v.frozen? ⟨s, 1, none⟩ = false
  f2 : v.frozen? ⟨s, 2, none⟩ = false
  f3 : v.frozen? ⟨s, 3, none⟩ = false
  lt : s < v.heap.size
theorem Fr4.keep {s : Nat} {a b c d : Int} {v v' : World} (h : Fr4 s a b c d v) (k : Below v.heap.size v v') : Fr4 s a b c d v' :=
  ⟨(k.cell (p := ⟨s, 0, none⟩) h.lt).trans h.c0, (k.cell (p := ⟨s, 1, none⟩) h.lt).trans h.c1, (k.cell (p := ⟨s, 2, none⟩) h.lt).trans h.c2, (k.cell (p := ⟨s, 3, none⟩) h.lt).trans h.c3, (k.frozen (p := ⟨s, 0, none⟩) h.lt).trans h.f0, (k.frozen (p := ⟨s, 1, none⟩) h.lt).trans h.f1, (k.frozen (p := ⟨s, 2, none⟩) h.lt).trans h.f2, (k.frozen (p := ⟨s, 3, none⟩) h.lt).trans h.f3, Nat.lt_of_lt_of_le h.lt k.size⟩
theorem f4_alloc (w : World) (a b c d : Int) : ∃ v, v = w.alloc (.cells #[.int .i64 a, .int .i64 b, .int .i64 c, .int .i64 d] 23) ∧ Below w.heap.size w v ∧ Fr4 w.heap.size a b c d v ∧ v.heap.size = w.heap.size + 1 :=
  ⟨_, rfl, (Below.refl _ _).alloc (Nat.le_refl _) _, ⟨by go_simp, by go_simp, by go_simp, by go_simp, by first | (simp; done) | go_simp, by first | (simp; done) | go_simp, by first | (simp; done) | go_simp, by first | (simp; done) | go_simp, by simp⟩, by simp⟩
theorem Fr4.laid {s : Nat} {a b c d : Int} {v : World} (h : Fr4 s a b c d v) (x0 x1 x2 x3 : Int) : ∃ u, u = (((v.setCell ⟨s, 0, none⟩ (.int .i64 x0)).setCell ⟨s, 1, none⟩ (.int .i64 x1)).setCell ⟨s, 2, none⟩ (.int .i64 x2)).setCell ⟨s, 3, none⟩ (.int .i64 x3) ∧ Fr4 s x0 x1 x2 x3 u ∧ Below s v u := by
  refine ⟨_, rfl, ⟨?_, ?_, ?_, ?_, by simpa using h.f0, by simpa using h.f1, by simpa using h.f2, by simpa using h.f3, by simpa using h.lt⟩, ((((Below.refl _ _).setCell (by exact Nat.le_refl _) _).setCell (by exact Nat.le_refl _) _).setCell (by exact Nat.le_refl _) _).setCell (by exact Nat.le_refl _) _⟩
  · rw [World.cell?_setCell_other _ _ _ _ (by simp), World.cell?_setCell_other _ _ _ _ (by simp), World.cell?_setCell_other _ _ _ _ (by simp)]
    exact World.cell?_setCell_same _ _ _ h.c0
  · rw [World.cell?_setCell_other _ _ _ _ (by simp), World.cell?_setCell_other _ _ _ _ (by simp)]
    exact World.cell?_setCell_same _ _ _ ((World.cell?_setCell_other _ _ _ _ (by simp)).trans h.c1)
  · rw [World.cell?_setCell_other _ _ _ _ (by simp)]
    exact World.cell?_setCell_same _ _ _ ((World.cell?_setCell_other _ _ _ _ (by simp)).trans ((World.cell?_setCell_other _ _ _ _ (by simp)).trans h.c2))
  · exact World.cell?_setCell_same _ _ _ ((World.cell?_setCell_other _ _ _ _ (by simp)).trans ((World.cell?_setCell_other _ _ _ _ (by simp)).trans ((World.cell?_setCell_other _ _ _ _ (by simp)).trans h.c3)))
theorem Fr4.of_grown {s g : Nat} {a b c d : Int} {v v' : World} (h : Fr4 s a b c d v) (k : v.grownBy v' (some g)) (hs : s ≠ g) : Fr4 s a b c d v' := by
  have e := k.block s h.lt (by simpa using hs)
  exact ⟨(World.cell?_of_block e).trans h.c0, (World.cell?_of_block e).trans h.c1, (World.cell?_of_block e).trans h.c2, (World.cell?_of_block e).trans h.c3, (World.frozen?_of_block e).trans h.f0, (World.frozen?_of_block e).trans h.f1, (World.frozen?_of_block e).trans h.f2, (World.frozen?_of_block e).trans h.f3, Nat.lt_of_lt_of_le h.lt k.size⟩
theorem bvals_set (l : List Int) (k : Nat) (n : Int) : (bvals l).set k (.int .u8 n) = bvals (l.set k n) := by simp [bvals]
theorem fb_box (w : World) (i s v t x0 x1 : Int) : ∃ V, V = ((w.alloc (.cells #[.int .i64 i, .int .i64 s, .int .i64 v, .int .i64 t] 23)).alloc (.cells #[.int .i64 x0, .int .i64 x1] 39)) ∧ Below w.heap.size w V ∧ V.heap.size = w.heap.size + 2 ∧ ∀ u, Below (w.heap.size + 2) V u → u.cell? ⟨w.heap.size, 0, none⟩ = some (.int .i64 i) ∧ u.cell? ⟨w.heap.size, 1, none⟩ = some (.int .i64 s) ∧ u.cell? ⟨w.heap.size, 2, none⟩ = some (.int .i64 v) ∧ u.cell? ⟨w.heap.size, 3, none⟩ = some (.int .i64 t) ∧ u.cell? ⟨w.heap.size + 1, 0, none⟩ = some (.int .i64 x0) ∧ u.cell? ⟨w.heap.size + 1, 1, none⟩ = some (.int .i64 x1) :=
  ⟨_, rfl, (by repeat (first | exact Below.refl _ _ | assumption | apply Below.drew | apply below_drewN | (refine Below.alloc ?_ (by first | exact Nat.le_refl _ | omega | (simp <;> omega)) _) | (refine Below.setCell ?_ (by first | exact Nat.le_refl _ | omega | (simp <;> omega)) _))), by simp, fun u hu => ⟨(bc hu (by omega)).trans (by go_simp), (bc hu (by omega)).trans (by go_simp), (bc hu (by omega)).trans (by go_simp), (bc hu (by omega)).trans (by go_simp), (bc hu (by omega)).trans (by go_simp), (bc hu (by omega)).trans (by go_simp)⟩⟩
set_option maxRecDepth 100000 in
set_option maxHeartbeats 8000000 in
theorem law_FrameBack (i s v t x0 x1 : Int) (a : Option Addr) (cap : Nat) (l : List Int) (w : World) (hr : RowIs .u8 w a l) (hL : l.length ≤ maxLen) (hB : BYT l) (g1' : -9223372036854775808 ≤ x0) (g2' : x0 ≤ 9223372036854775807) : Calls Try.prog 6 #[.agg #[.int .i64 i, .int .i64 s, .int .i64 v, .int .i64 t], .slice a l.length cap, .agg #[.int .i64 x0, .int .i64 x1]] w fun e w' => e = .returned (.bool true) ∧ Below w.heap.size w w' := by
  obtain ⟨V, eV, hb0, hz, hcs⟩ := fb_box w i s v t x0 x1
  have LV := Lib.hid (fun u => lives12 u)
  have TB := Lib.hid (fun u (h : Below (w.heap.size + 2) V u) => ftake a cap l u (hr.below (hb0.trans (h.mono (by omega)))) hL hB)
  have TE : (tkE l ≠ 0 ∧ tkI l = 0 ∧ tkS l = 0 ∧ tkV l = 0 ∧ tkT l = 0) ∨ (tkE l = 0 ∧ (∀ u, Calls Try.prog 15 #[.agg #[.int .i64 (tkI l), .int .i64 (tkS l), .int .i64 (tkV l), .int .i64 (tkT l)]] u (PutP (tkI l) (tkS l) (tkV l) (tkT l) u (fun x => .tuple #[x, .int .i64 0]))) ∧ (∀ (g c : Nat) u, RowIs .u8 u (some ⟨g, 0, none⟩) (puL (tkI l) (tkS l) (tkV l) (tkT l)) → Below (w.heap.size + 2) V u → Calls Try.prog 19 #[.slice (some ⟨g, 0, none⟩) 8 c, .slice a l.length cap] u fun e w' => e = .returned (.bool true) ∧ Below u.heap.size u w')) := by
    by_cases h : tkE l = 0
    · refine .inr ⟨h, fun u => fput_ok _ _ _ _ u (tk_right hB h), fun g c u hg hu => ?_⟩
      rw [tk_back hB h] at hg
      have q := rsame12 (some ⟨g, 0, none⟩) a c cap l u hg (hr.below (hb0.trans (hu.mono (by omega)))) hL
      rw [show (Value.slice (some ⟨g, 0, none⟩) 8 c) = .slice (some ⟨g, 0, none⟩) l.length c by rw [(tkE_ok h).1]]
      exact q
    · exact .inl ⟨h, tk_no h⟩
  generalize tkI l = b0 at *
  generalize tkS l = b1 at *
  generalize tkV l = b2 at *
  generalize tkT l = b3 at *
  generalize tkE l = b4 at *
  replace TE := Lib.hid TE
  clear hr hB hL
  cases h : frB i s v t
  · have PT := Lib.hid (fun u => fput_no i s v t u h)
    clear h
    replace hb0 := Lib.hid hb0
    replace hz := Lib.hid hz
    replace hcs := Lib.hid hcs
    replace eV := Lib.hid eV
    go_enter Try.func6, Try.ntmps6
    go_wp2_with fail
    rw [← eV.out]
    obtain ⟨k0, k1, k2, k3, k4, k5⟩ := hcs.out _ (Below.refl _ _)
    go_wp2_with fail
    refine (PT.out _).mono ?_
    rintro e w1 ⟨rfl, hb1⟩
    have hb1 := (Below.refl (w.heap.size + 2) V).trans (hb1.mono (Nat.le_of_eq hz.out.symm))
    obtain ⟨k0, k1, k2, k3, k4, k5⟩ := hcs.out _ hb1
    go_wp2_with fail
    refine (TB.out _ hb1).mono ?_
    rintro e w30 ⟨rfl, hb30⟩
    have hb31 := hb1.trans (hb30.mono (by have := hb1.size; have := hz.out; omega))
    clear hb1 hb30
    go_upto_region 13 with (fail)
    obtain ⟨V2, eV2, hm2, hF2, hz2⟩ := f4_alloc w30 b0 b1 b2 b3
    rw [← eV2]
    have hb32 := hb31.trans (hm2.mono (by have := hb31.size; have := hz.out; omega))
    replace eV2 := Lib.hid eV2
    obtain ⟨i0, i1, i2, i3, -, -, -, -, -⟩ := hF2
    clear hb31 hm2 hz2
    rcases TE.out with ⟨d4, rfl, rfl, rfl, rfl⟩ | ⟨rfl, PB, SA⟩
    · have d5 : (b4 != 0) = true := by simp [d4]
      go_wp2_with fail
      refine (LV.out _).mono ?_
      rintro e w33 ⟨rfl, hb33⟩
      have hb34 := Lib.hid (hb0.out.trans ((hb32.trans (hb33.mono (by have := hb32.size; have := hz.out; omega))).mono (by omega)))
      clear hb32 hb33
      go_wp2
      go_ret
      exact ⟨rfl, hb34.out⟩
    · go_wp2_with fail
      refine (PB _).mono ?_
      rintro e w33 ⟨g5, c5, rfl, ho5, hb33⟩
      have hr5 := (own_bytes ho5 (by decide) rfl).1
      clear ho5
      have hb34 := hb32.trans (hb33.mono (by have := hb32.size; have := hz.out; omega))
      clear hb32 hb33
      go_wp2_with fail
      refine (SA _ _ _ hr5 hb34).mono ?_
      rintro e w35 ⟨rfl, hb35⟩
      have hb36 := hb34.trans (hb35.mono (by have := hb34.size; have := hz.out; omega))
      clear hr5 hb34 hb35
      go_wp2_with fail
      refine (LV.out _).mono ?_
      rintro e w37 ⟨rfl, hb37⟩
      have hb38 := Lib.hid (hb0.out.trans ((hb36.trans (hb37.mono (by have := hb36.size; have := hz.out; omega))).mono (by omega)))
      clear hb36 hb37
      go_wp2
      go_ret
      exact ⟨rfl, hb38.out⟩
  · have PT := Lib.hid (fun u => fput_ok i s v t u h)
    have TK := fun (g c : Nat) u (hr : RowIs .u8 u (some ⟨g, 0, none⟩) (puL i s v t)) => show Calls Try.prog 21 #[.slice (some ⟨g, 0, none⟩) 8 c] u _ from ftake (some ⟨g, 0, none⟩) c (puL i s v t) u hr (by show 8 ≤ maxLen; decide) (puL_byt h)
    obtain ⟨t1, t2, t3, t4⟩ := puL_back h
    rw [t1, t2, t3, t4, puL_ok] at TK
    replace TK := Lib.hid TK
    have SET := Lib.hid (fun (k : Nat) (y : Int) (hk : k < 8) (hy : 0 ≤ y ∧ y < 256) (hne : y ≠ (puL i s v t).getD k 0) (g c : Nat) u (hr : RowIs .u8 u (some ⟨g, 0, none⟩) ((puL i s v t).set k y)) => show ∃ e4, e4 ≠ 0 ∧ Calls Try.prog 21 #[.slice (some ⟨g, 0, none⟩) 8 c] u fun e w' => e = .returned (.tuple #[.agg #[.int .i64 0, .int .i64 0, .int .i64 0, .int .i64 0], .int .i64 e4]) ∧ Below u.heap.size u w' from by
      have hb := puL_byt h
      have hE : tkE ((puL i s v t).set k y) ≠ 0 := tkE_tot (by
        have := tot_set (l := puL i s v t) (k := k) (x := y) (by rw [puL_len]; exact hk) (hb k (by rw [puL_len]; exact hk)) hy hne
        rw [puL_tot] at this
        exact this)
      obtain ⟨q1, q2, q3, q4⟩ := tk_no hE
      have hl : ((puL i s v t).set k y).length = 8 := by rw [List.length_set, puL_len]
      have q := ftake (some ⟨g, 0, none⟩) c ((puL i s v t).set k y) u hr (by rw [hl]; decide) (fun j hj => by
        rw [List.length_set] at hj
        by_cases e : j = k
        · subst e
          rw [show ((puL i s v t).set j y).getD j 0 = y by simp [List.getD, hj]]
          exact hy
        · rw [show ((puL i s v t).set k y).getD j 0 = (puL i s v t).getD j 0 by simp [List.getD, List.getElem?_set_ne (Ne.symm e)]]
          exact hb j hj)
      rw [q1, q2, q3, q4, hl] at q
      exact ⟨_, hE, q⟩)
    have BY := Lib.hid (fun (k : Nat) (hk : k < 8) => puL_byt h k hk)
    clear h t1 t2 t3 t4
    replace hb0 := Lib.hid hb0
    replace hz := Lib.hid hz
    replace hcs := Lib.hid hcs
    replace eV := Lib.hid eV
    go_enter Try.func6, Try.ntmps6
    go_wp2_with fail
    rw [← eV.out]
    obtain ⟨k0, k1, k2, k3, k4, k5⟩ := hcs.out _ (Below.refl _ _)
    go_wp2_with fail
    refine (PT.out _).mono ?_
    rintro e w1 ⟨g1, c1, rfl, ho, hb1⟩
    have hr1 := (own_bytes ho (by decide) rfl).1
    have hg1 : w.heap.size + 2 ≤ g1 ∧ g1 < w1.heap.size := by have := (own_bytes ho (by decide) rfl).2; have := hz.out; omega
    have hb1 := (Below.refl (w.heap.size + 2) V).trans (hb1.mono (Nat.le_of_eq hz.out.symm))
    obtain ⟨k0, k1, k2, k3, k4, k5⟩ := hcs.out _ hb1
    have hLL := Lib.hid (puL_len i s v t)
    generalize puL i s v t = L at *
    go_wp2_with fail
    refine (TK.out _ _ _ hr1).mono ?_
    rintro e w2 ⟨rfl, hb2⟩
    replace ho := own_below ho hb2
    have hg2 : g1 < w2.heap.size := Nat.lt_of_lt_of_le hg1.2 hb2.size
    have hb3 := hb1.trans (hb2.mono (by have := hb1.size; have := hz.out; omega))
    clear hb1 hb2 hr1
    go_upto_region 4 with (fail)
    obtain ⟨V1, eV1, hm1, hF1, hz1⟩ := f4_alloc w2 i s v t
    rw [← eV1]
    replace ho := own_below ho hm1
    have hb4 := hb3.trans (hm1.mono (by have := hb3.size; have := hz.out; omega))
    obtain ⟨s1, es1⟩ : ∃ s1, s1 = w2.heap.size := ⟨_, rfl⟩
    rw [← es1] at hF1 ⊢
    have hs1 : g1 < s1 ∧ w.heap.size + 2 ≤ s1 := by have := hb3.size; have := hz.out; omega
    have hz1 : V1.heap.size = s1 + 1 := by omega
    replace eV1 := Lib.hid eV1
    replace es1 := Lib.hid es1
    clear hb3 hm1
    replace ho := Lib.hid ho
    replace hg1 := Lib.hid hg1
    replace hg2 := Lib.hid hg2
    replace hs1 := Lib.hid hs1
    replace hz1 := Lib.hid hz1
    obtain ⟨k0, k1, k2, k3, k4, k5⟩ := hcs.out _ hb4
    have hF9 := Lib.hid hF1
    obtain ⟨j0, j1, j2, j3, -, -, -, -, -⟩ := hF1
    go_upto_region 6 with (fail)
    refine region_moves (fun u => u.cell? ⟨w.heap.size + 1, 0, none⟩ = some (.int .i64 x0) ∧ u.cell? ⟨w.heap.size + 1, 1, none⟩ = some (.int .i64 x1)) [] [(.free, 0), (.take, 1), (.free, 2), (.take, 3), (.free, 4), (.free, 5), (.free, 6)] _ (by kernel_rfl) (by kernel_rfl) (by kernel_rfl) (by kernel_rfl) (by decide) rfl (fun _ _ _ _ _ h => h) ?_
    simp only [List.filterMap_cons, List.filterMap_nil, List.getElem?_toArray, List.getElem?_cons_zero, List.getElem?_cons_succ, Option.map_some]
    iterate 1
      first
        | (refine mv_free ?_ (Or.inl ⟨by rfl, ?_⟩) (⟨k4, k5⟩) ?_
           rotate_left 1
           · intro u
             go_simp
             try simp only [d1]
             try simp only [d2]
             try simp only [d3]
             try with_reducible rfl
           simp only [Act.put, List.setIfInBounds_toArray, List.set_cons_zero, List.set_cons_succ])
        | (refine mv_free _ (Or.inr ⟨by rfl, rfl⟩) (⟨k4, k5⟩) ?_
           simp only [Act.put, List.setIfInBounds_toArray, List.set_cons_zero, List.set_cons_succ])
    iterate 1
      first
        | (refine mv_take ?_ (Or.inl ⟨by rfl, ?_⟩) (⟨k4, k5⟩) ?_
           rotate_left 1
           · intro u hu
             (try dsimp only at hu)
             go_simp
             try with_reducible rfl
           simp only [Act.put, List.setIfInBounds_toArray, List.set_cons_zero, List.set_cons_succ])
        | (refine mv_take _ (Or.inr ⟨by rfl, rfl⟩) (⟨k4, k5⟩) ?_
           simp only [Act.put, List.setIfInBounds_toArray, List.set_cons_zero, List.set_cons_succ])
    iterate 1
      first
        | (refine mv_free ?_ (Or.inl ⟨by rfl, ?_⟩) (⟨k4, k5⟩) ?_
           rotate_left 1
           · intro u
             go_simp
             try simp only [d1]
             try simp only [d2]
             try simp only [d3]
             try with_reducible rfl
           simp only [Act.put, List.setIfInBounds_toArray, List.set_cons_zero, List.set_cons_succ])
        | (refine mv_free _ (Or.inr ⟨by rfl, rfl⟩) (⟨k4, k5⟩) ?_
           simp only [Act.put, List.setIfInBounds_toArray, List.set_cons_zero, List.set_cons_succ])
    iterate 1
      first
        | (refine mv_take ?_ (Or.inl ⟨by rfl, ?_⟩) (⟨k4, k5⟩) ?_
           rotate_left 1
           · intro u hu
             (try dsimp only at hu)
             go_simp
             try with_reducible rfl
           simp only [Act.put, List.setIfInBounds_toArray, List.set_cons_zero, List.set_cons_succ])
        | (refine mv_take _ (Or.inr ⟨by rfl, rfl⟩) (⟨k4, k5⟩) ?_
           simp only [Act.put, List.setIfInBounds_toArray, List.set_cons_zero, List.set_cons_succ])
    iterate 3
      first
        | (refine mv_free ?_ (Or.inl ⟨by rfl, ?_⟩) (⟨k4, k5⟩) ?_
           rotate_left 1
           · intro u
             go_simp
             try simp only [d1]
             try simp only [d2]
             try simp only [d3]
             try with_reducible rfl
           simp only [Act.put, List.setIfInBounds_toArray, List.set_cons_zero, List.set_cons_succ])
        | (refine mv_free _ (Or.inr ⟨by rfl, rfl⟩) (⟨k4, k5⟩) ?_
           simp only [Act.put, List.setIfInBounds_toArray, List.set_cons_zero, List.set_cons_succ])
    refine mv_done ?_
    replace hb4 := hb4.drew
    clear j0 j1 j2 j3 k0 k1 k2 k3 k4 k5
    obtain ⟨y, hy⟩ : ∃ y, y = x1 % 256 := ⟨_, rfl⟩
    have yb : 0 ≤ y ∧ y < 256 := by omega
    have hy1 : x1 % 256 = y := hy.symm
    clear hy
    rcases (show x0 < 0 ∨ (0 ≤ x0 ∧ 8 ≤ x0) ∨ (0 ≤ x0 ∧ x0 < 8 ∧ y = 0) ∨ (0 ≤ x0 ∧ x0 < 8 ∧ y ≠ 0) by omega) with h | ⟨h, h2⟩ | ⟨h, h2, rfl⟩ | ⟨h, h2, h3⟩
    · go_wp2_with fail
      refine (TB.out _ hb4).mono ?_
      rintro e w30 ⟨rfl, hb30⟩
      have hb31 := hb4.trans (hb30.mono (by have := hb4.size; have := hz.out; omega))
      clear hb4 hb30
      go_upto_region 13 with (fail)
      obtain ⟨V2, eV2, hm2, hF2, hz2⟩ := f4_alloc w30 b0 b1 b2 b3
      rw [← eV2]
      have hb32 := hb31.trans (hm2.mono (by have := hb31.size; have := hz.out; omega))
      replace eV2 := Lib.hid eV2
      obtain ⟨i0, i1, i2, i3, -, -, -, -, -⟩ := hF2
      clear hb31 hm2 hz2
      rcases TE.out with ⟨d4, rfl, rfl, rfl, rfl⟩ | ⟨rfl, PB, SA⟩
      · have d5 : (b4 != 0) = true := by simp [d4]
        go_wp2_with fail
        refine (LV.out _).mono ?_
        rintro e w33 ⟨rfl, hb33⟩
        have hb34 := Lib.hid (hb0.out.trans ((hb32.trans (hb33.mono (by have := hb32.size; have := hz.out; omega))).mono (by omega)))
        clear hb32 hb33
        go_wp2
        go_ret
        exact ⟨rfl, hb34.out⟩
      · go_wp2_with fail
        refine (PB _).mono ?_
        rintro e w33 ⟨g5, c5, rfl, ho5, hb33⟩
        have hr5 := (own_bytes ho5 (by decide) rfl).1
        clear ho5
        have hb34 := hb32.trans (hb33.mono (by have := hb32.size; have := hz.out; omega))
        clear hb32 hb33
        go_wp2_with fail
        refine (SA _ _ _ hr5 hb34).mono ?_
        rintro e w35 ⟨rfl, hb35⟩
        have hb36 := hb34.trans (hb35.mono (by have := hb34.size; have := hz.out; omega))
        clear hr5 hb34 hb35
        go_wp2_with fail
        refine (LV.out _).mono ?_
        rintro e w37 ⟨rfl, hb37⟩
        have hb38 := Lib.hid (hb0.out.trans ((hb36.trans (hb37.mono (by have := hb36.size; have := hz.out; omega))).mono (by omega)))
        clear hb36 hb37
        go_wp2
        go_ret
        exact ⟨rfl, hb38.out⟩
    · go_wp2_with fail
      refine (TB.out _ hb4).mono ?_
      rintro e w30 ⟨rfl, hb30⟩
      have hb31 := hb4.trans (hb30.mono (by have := hb4.size; have := hz.out; omega))
      clear hb4 hb30
      go_upto_region 13 with (fail)
      obtain ⟨V2, eV2, hm2, hF2, hz2⟩ := f4_alloc w30 b0 b1 b2 b3
      rw [← eV2]
      have hb32 := hb31.trans (hm2.mono (by have := hb31.size; have := hz.out; omega))
      replace eV2 := Lib.hid eV2
      obtain ⟨i0, i1, i2, i3, -, -, -, -, -⟩ := hF2
      clear hb31 hm2 hz2
      rcases TE.out with ⟨d4, rfl, rfl, rfl, rfl⟩ | ⟨rfl, PB, SA⟩
      · have d5 : (b4 != 0) = true := by simp [d4]
        go_wp2_with fail
        refine (LV.out _).mono ?_
        rintro e w33 ⟨rfl, hb33⟩
        have hb34 := Lib.hid (hb0.out.trans ((hb32.trans (hb33.mono (by have := hb32.size; have := hz.out; omega))).mono (by omega)))
        clear hb32 hb33
        go_wp2
        go_ret
        exact ⟨rfl, hb34.out⟩
      · go_wp2_with fail
        refine (PB _).mono ?_
        rintro e w33 ⟨g5, c5, rfl, ho5, hb33⟩
        have hr5 := (own_bytes ho5 (by decide) rfl).1
        clear ho5
        have hb34 := hb32.trans (hb33.mono (by have := hb32.size; have := hz.out; omega))
        clear hb32 hb33
        go_wp2_with fail
        refine (SA _ _ _ hr5 hb34).mono ?_
        rintro e w35 ⟨rfl, hb35⟩
        have hb36 := hb34.trans (hb35.mono (by have := hb34.size; have := hz.out; omega))
        clear hr5 hb34 hb35
        go_wp2_with fail
        refine (LV.out _).mono ?_
        rintro e w37 ⟨rfl, hb37⟩
        have hb38 := Lib.hid (hb0.out.trans ((hb36.trans (hb37.mono (by have := hb36.size; have := hz.out; omega))).mono (by omega)))
        clear hb36 hb37
        go_wp2
        go_ret
        exact ⟨rfl, hb38.out⟩
    · go_wp2_with fail
      refine (TB.out _ hb4).mono ?_
      rintro e w30 ⟨rfl, hb30⟩
      have hb31 := hb4.trans (hb30.mono (by have := hb4.size; have := hz.out; omega))
      clear hb4 hb30
      go_upto_region 13 with (fail)
      obtain ⟨V2, eV2, hm2, hF2, hz2⟩ := f4_alloc w30 b0 b1 b2 b3
      rw [← eV2]
      have hb32 := hb31.trans (hm2.mono (by have := hb31.size; have := hz.out; omega))
      replace eV2 := Lib.hid eV2
      obtain ⟨i0, i1, i2, i3, -, -, -, -, -⟩ := hF2
      clear hb31 hm2 hz2
      rcases TE.out with ⟨d4, rfl, rfl, rfl, rfl⟩ | ⟨rfl, PB, SA⟩
      · have d5 : (b4 != 0) = true := by simp [d4]
        go_wp2_with fail
        refine (LV.out _).mono ?_
        rintro e w33 ⟨rfl, hb33⟩
        have hb34 := Lib.hid (hb0.out.trans ((hb32.trans (hb33.mono (by have := hb32.size; have := hz.out; omega))).mono (by omega)))
        clear hb32 hb33
        go_wp2
        go_ret
        exact ⟨rfl, hb34.out⟩
      · go_wp2_with fail
        refine (PB _).mono ?_
        rintro e w33 ⟨g5, c5, rfl, ho5, hb33⟩
        have hr5 := (own_bytes ho5 (by decide) rfl).1
        clear ho5
        have hb34 := hb32.trans (hb33.mono (by have := hb32.size; have := hz.out; omega))
        clear hb32 hb33
        go_wp2_with fail
        refine (SA _ _ _ hr5 hb34).mono ?_
        rintro e w35 ⟨rfl, hb35⟩
        have hb36 := hb34.trans (hb35.mono (by have := hb34.size; have := hz.out; omega))
        clear hr5 hb34 hb35
        go_wp2_with fail
        refine (LV.out _).mono ?_
        rintro e w37 ⟨rfl, hb37⟩
        have hb38 := Lib.hid (hb0.out.trans ((hb36.trans (hb37.mono (by have := hb36.size; have := hz.out; omega))).mono (by omega)))
        clear hb36 hb37
        go_wp2
        go_ret
        exact ⟨rfl, hb38.out⟩
    · obtain ⟨k, rfl⟩ : ∃ k : Nat, x0 = (k : Int) := ⟨x0.toNat, by omega⟩
      have hk8 : k < 8 := by omega
      have cb := BY.out k hk8
      have ck := ho.out.cellAt k (by omega)
      rw [bvals_at (by rw [hLL.out]; exact hk8)] at ck
      have fk := ho.out.frozenAt k
      have SE := SET.out k ((L.getD k 0 + y) % 256) hk8 (by omega) (by omega)
      have so := ho.out.stored k (.int .u8 ((L.getD k 0 + y) % 256))
      rw [bvals_set] at so
      generalize L.getD k 0 = x at *
      generalize hzz : (x + y) % 256 = z at *
      have d3 : (y != 0) = true := by simp [h3]
      replace SE := Lib.hid SE
      obtain ⟨U, eU, hU1, hU2⟩ : ∃ U, U = V1.setCell ⟨g1, k, none⟩ (.int .u8 z) ∧ U.ownsRow V.heap.size 5 1 (.slice (some ⟨g1, 0, none⟩) 8 c1) 8 (bvals (L.set k z)) ∧ V1.grownBy U (some g1) := ⟨_, rfl, so.1, so.2⟩
      clear so
      replace eU := Lib.hid eU
      replace hU1 := Lib.hid hU1
      replace hU2 := Lib.hid hU2
      clear BY hk8 cb
      go_upto_region 9 with (fail)
      rw [← eU.out]
      obtain ⟨e4, he4, SE4⟩ := SE.out g1 c1 U.drew (own_bytes hU1.out.drew (by decide) (by rw [List.length_set]; exact hLL.out)).1
      have hF5 := hF9.out.of_grown hU2.out (by have := hs1.out; omega)
      have hb5 := ((show Below (w.heap.size + 2) V V1 from ⟨hb4.os, hb4.tape, hb4.output, hb4.size, hb4.block⟩).grown hU2.out (by have := (show V.heap.size ≤ V1.heap.size from hb4.size); have := hz.out; omega) (fun k e => by injection e with e; have := hg1.out; omega)).drew
      clear ck fk hF9
      go_wp2_with fail
      refine SE4.mono ?_
      rintro e w7 ⟨rfl, hb7⟩
      replace hF5 := (show Fr4 s1 i s v t U.drew from ⟨hF5.c0, hF5.c1, hF5.c2, hF5.c3, hF5.f0, hF5.f1, hF5.f2, hF5.f3, hF5.lt⟩).keep hb7
      have hb8 := hb5.trans (hb7.mono (by have := hb5.size; have := hz.out; omega))
      clear hb5 hb7
      have hF7 := Lib.hid hF5
      obtain ⟨j0, j1, j2, j3, p0, p1, p2, p3, _⟩ := hF5
      go_upto_region 10 with (fail)
      clear j0 j1 j2 j3 p0 p1 p2 p3
      obtain ⟨u9, e9, hF8, hb9'⟩ := hF7.out.laid 0 0 0 0
      rw [← e9]
      replace e9 := Lib.hid e9
      have hb9 := hb8.trans (hb9'.mono (by have := hs1.out; omega))
      clear hb8 hb9'
      obtain ⟨j0, j1, j2, j3, -, -, -, -, -⟩ := hF8
      have d4 : (e4 == 0) = false := by simp [he4]
      go_wp2_with fail
      refine (TB.out _ hb9).mono ?_
      rintro e w30 ⟨rfl, hb30⟩
      have hb31 := hb9.trans (hb30.mono (by have := hb9.size; have := hz.out; omega))
      clear hb9 hb30
      go_upto_region 13 with (fail)
      obtain ⟨V2, eV2, hm2, hF2, hz2⟩ := f4_alloc w30 b0 b1 b2 b3
      rw [← eV2]
      have hb32 := hb31.trans (hm2.mono (by have := hb31.size; have := hz.out; omega))
      replace eV2 := Lib.hid eV2
      obtain ⟨i0, i1, i2, i3, -, -, -, -, -⟩ := hF2
      clear hb31 hm2 hz2
      rcases TE.out with ⟨d4, rfl, rfl, rfl, rfl⟩ | ⟨rfl, PB, SA⟩
      · have d5 : (b4 != 0) = true := by simp [d4]
        go_wp2_with fail
        refine (LV.out _).mono ?_
        rintro e w33 ⟨rfl, hb33⟩
        have hb34 := Lib.hid (hb0.out.trans ((hb32.trans (hb33.mono (by have := hb32.size; have := hz.out; omega))).mono (by omega)))
        clear hb32 hb33
        go_wp2
        go_ret
        exact ⟨rfl, hb34.out⟩
      · go_wp2_with fail
        refine (PB _).mono ?_
        rintro e w33 ⟨g5, c5, rfl, ho5, hb33⟩
        have hr5 := (own_bytes ho5 (by decide) rfl).1
        clear ho5
        have hb34 := hb32.trans (hb33.mono (by have := hb32.size; have := hz.out; omega))
        clear hb32 hb33
        go_wp2_with fail
        refine (SA _ _ _ hr5 hb34).mono ?_
        rintro e w35 ⟨rfl, hb35⟩
        have hb36 := hb34.trans (hb35.mono (by have := hb34.size; have := hz.out; omega))
        clear hr5 hb34 hb35
        go_wp2_with fail
        refine (LV.out _).mono ?_
        rintro e w37 ⟨rfl, hb37⟩
        have hb38 := Lib.hid (hb0.out.trans ((hb36.trans (hb37.mono (by have := hb36.size; have := hz.out; omega))).mono (by omega)))
        clear hb36 hb37
        go_wp2
        go_ret
        exact ⟨rfl, hb38.out⟩
end Go.Proofs.Ytflcagcekhgjcaa
