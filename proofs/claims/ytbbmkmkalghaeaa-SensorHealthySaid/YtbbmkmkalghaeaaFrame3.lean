/- What eight bytes say, the program's and the document's; walked. -/
import Derived.Test.YtbbmkmkalghaeaaFrame2
import Derived.Deep.Cut
namespace Go.Proofs.Ytbbmkmkalghaeaa
open Go.ChangeShapes Go.WideShapes Go.ChangeAt Go.RowKit
set_option linter.unusedVariables false
set_option linter.unusedSimpArgs false

theorem tk12 {l : List Int} (h : l.length ≠ 8) : tkE l = 12 ∧ tkI l = 0 ∧ tkS l = 0 ∧ tkV l = 0 ∧ tkT l = 0 := by
  have e : tkE l = 12 := by unfold tkE; rw [if_neg h]
  refine ⟨e, ?_, ?_, ?_, ?_⟩
  · unfold tkI; rw [e]; rfl
  · unfold tkS; rw [e]; rfl
  · unfold tkV; rw [e]; rfl
  · unfold tkT; rw [e]; rfl
theorem tk3 {l : List Int} (h8 : l.length = 8) (h : l.getD 0 0 ≠ 165) : tkE l = 3 ∧ tkI l = 0 ∧ tkS l = 0 ∧ tkV l = 0 ∧ tkT l = 0 := by
  have e : tkE l = 3 := by unfold tkE; rw [if_pos h8, if_neg h]
  refine ⟨e, ?_, ?_, ?_, ?_⟩
  · unfold tkI; rw [e]; rfl
  · unfold tkS; rw [e]; rfl
  · unfold tkV; rw [e]; rfl
  · unfold tkT; rw [e]; rfl
theorem tk4 {l : List Int} (h8 : l.length = 8) (h0 : l.getD 0 0 = 165) (h : tot l ≠ 0) : tkE l = 4 ∧ tkI l = 0 ∧ tkS l = 0 ∧ tkV l = 0 ∧ tkT l = 0 := by
  have e : tkE l = 4 := by unfold tkE; rw [if_pos h8, if_pos h0, if_neg h]
  refine ⟨e, ?_, ?_, ?_, ?_⟩
  · unfold tkI; rw [e]; rfl
  · unfold tkS; rw [e]; rfl
  · unfold tkV; rw [e]; rfl
  · unfold tkT; rw [e]; rfl
theorem tk0 {l : List Int} (h8 : l.length = 8) (h0 : l.getD 0 0 = 165) (h : tot l = 0) : tkE l = 0 ∧ tkI l = l.getD 1 0 ∧ tkS l = l.getD 2 0 ∧ tkV l = s24 (l.getD 3 0 * 65536 + l.getD 4 0 * 256 + l.getD 5 0) ∧ tkT l = s8 (l.getD 6 0) := by
  have e : tkE l = 0 := by unfold tkE; rw [if_pos h8, if_pos h0, if_pos h]
  refine ⟨e, ?_, ?_, ?_, ?_⟩
  · unfold tkI; rw [if_pos e]
  · unfold tkS; rw [if_pos e]
  · unfold tkV; rw [if_pos e]
  · unfold tkT; rw [if_pos e]

/-- A new frame of nothing. -/
structure Fr0 (s : Nat) (v : World) : Prop where
  c0 : v.cell? ⟨s, 0, none⟩ = some (.int .i64 0)
  c1 : v.cell? ⟨s, 1, none⟩ = some (.int .i64 0)
  c2 : v.cell? ⟨s, 2, none⟩ = some (.int .i64 0)
  c3 : v.cell? ⟨s, 3, none⟩ = some (.int .i64 0)
  f0 : v.frozen? ⟨s, 0, none⟩ = false
  f1 : v.frozen? ⟨s, 1, none⟩ = false
  f2 : v.frozen? ⟨s, 2, none⟩ = false
  f3 : v.frozen? ⟨s, 3, none⟩ = false
theorem fr_alloc (w : World) : ∃ v, v = w.alloc (.cells #[.int .i64 0, .int .i64 0, .int .i64 0, .int .i64 0] 45) ∧ Below w.heap.size w v ∧ Fr0 w.heap.size v ∧ v.heap.size = w.heap.size + 1 :=
  ⟨_, rfl, (Below.refl _ _).alloc (Nat.le_refl _) _, ⟨by go_simp, by go_simp, by go_simp, by go_simp, by first | (simp; done) | go_simp, by first | (simp; done) | go_simp, by first | (simp; done) | go_simp, by first | (simp; done) | go_simp⟩, by simp⟩
/-- The new frame, its cells laid. -/
theorem Fr0.laid {s : Nat} {v : World} (h : Fr0 s v) (x0 x1 x2 x3 : Int) : ∃ u, u = (((v.setCell ⟨s, 0, none⟩ (.int .i64 x0)).setCell ⟨s, 1, none⟩ (.int .i64 x1)).setCell ⟨s, 2, none⟩ (.int .i64 x2)).setCell ⟨s, 3, none⟩ (.int .i64 x3) ∧ u.cell? ⟨s, 0, none⟩ = some (.int .i64 x0) ∧ u.cell? ⟨s, 1, none⟩ = some (.int .i64 x1) ∧ u.cell? ⟨s, 2, none⟩ = some (.int .i64 x2) ∧ u.cell? ⟨s, 3, none⟩ = some (.int .i64 x3) ∧ Below s v u := by
  refine ⟨_, rfl, ?_, ?_, ?_, ?_, ((((Below.refl _ _).setCell (by exact Nat.le_refl _) _).setCell (by exact Nat.le_refl _) _).setCell (by exact Nat.le_refl _) _).setCell (by exact Nat.le_refl _) _⟩
  · rw [World.cell?_setCell_other _ _ _ _ (by simp), World.cell?_setCell_other _ _ _ _ (by simp), World.cell?_setCell_other _ _ _ _ (by simp)]
    exact World.cell?_setCell_same _ _ _ h.c0
  · rw [World.cell?_setCell_other _ _ _ _ (by simp), World.cell?_setCell_other _ _ _ _ (by simp)]
    exact World.cell?_setCell_same _ _ _ ((World.cell?_setCell_other _ _ _ _ (by simp)).trans h.c1)
  · rw [World.cell?_setCell_other _ _ _ _ (by simp)]
    exact World.cell?_setCell_same _ _ _ ((World.cell?_setCell_other _ _ _ _ (by simp)).trans ((World.cell?_setCell_other _ _ _ _ (by simp)).trans h.c2))
  · exact World.cell?_setCell_same _ _ _ ((World.cell?_setCell_other _ _ _ _ (by simp)).trans ((World.cell?_setCell_other _ _ _ _ (by simp)).trans ((World.cell?_setCell_other _ _ _ _ (by simp)).trans h.c3)))
set_option maxRecDepth 100000 in
set_option maxHeartbeats 8000000 in
theorem ftake (a : Option Addr) (cap : Nat) (l : List Int) (w : World) (hr : RowIs .u8 w a l) (hL : l.length ≤ maxLen) (hB : BYT l) :
    Calls Try.prog 135 #[.slice a l.length cap] w fun e w' => e = .returned (.tuple #[.agg #[.int .i64 (tkI l), .int .i64 (tkS l), .int .i64 (tkV l), .int .i64 (tkT l)], .int .i64 (tkE l)]) ∧ Below w.heap.size w w' := by
  have hL' : (l.length : Int) ≤ 9223372036854775807 := by unfold maxLen at hL; omega
  by_cases h8 : l.length = 8
  · rcases hr with rfl | ⟨b, off, rfl, hlt, hc⟩
    · simp at h8
    have c0 := hc 0 (by omega)
    have c1 := hc 1 (by omega)
    have c2 := hc 2 (by omega)
    have c3 := hc 3 (by omega)
    have c4 := hc 4 (by omega)
    have c5 := hc 5 (by omega)
    have c6 := hc 6 (by omega)
    rw [Nat.add_zero] at c0
    have b0 := hB 0 (by omega)
    have b3 := hB 3 (by omega)
    have b4 := hB 4 (by omega)
    have b5 := hB 5 (by omega)
    have b6 := hB 6 (by omega)
    have b1 := hB 1 (by omega)
    have b2 := hB 2 (by omega)
    by_cases h0 : l.getD 0 0 = 165
    · have SM := Lib.hid (fun u (h : Below w.heap.size w u) => fsum (some ⟨b, off, none⟩) cap l u (.inr ⟨b, off, rfl, Nat.lt_of_lt_of_le hlt h.size, fun i hi => (h.cell (p := ⟨b, off + i, none⟩) hlt).trans (hc i hi)⟩) hL)
      rw [h8] at SM ⊢
      have tb := tot_bd l
      rw [h0] at c0
      by_cases ht : tot l = 0
      · obtain ⟨e0, e1, e2, e3, e4⟩ := tk0 h8 h0 ht
        rw [e0, e1, e2, e3, e4]
        rw [ht] at SM
        generalize l.getD 1 0 = x1 at *
        generalize l.getD 2 0 = x2 at *
        generalize l.getD 3 0 = x3 at *
        generalize l.getD 4 0 = x4 at *
        generalize l.getD 5 0 = x5 at *
        generalize l.getD 6 0 = x6 at *
        have v1 : IntKind.i64.wrap x1 = x1 := by rw [IntKind.wrap_i64]; omega
        have v2 : IntKind.i64.wrap x2 = x2 := by rw [IntKind.wrap_i64]; omega
        have v3 : IntKind.i8.wrap x3 = s8 x3 := wrap_i8 x3 b3
        have v3b : -128 ≤ s8 x3 ∧ s8 x3 ≤ 127 := by unfold s8; omega
        have v3' : IntKind.i64.wrap (s8 x3) = s8 x3 := by rw [IntKind.wrap_i64]; omega
        have v3'' : IntKind.i64.wrap (s8 x3 * 65536) = s8 x3 * 65536 := by rw [IntKind.wrap_i64]; omega
        have v4 : IntKind.i64.wrap x4 = x4 := by rw [IntKind.wrap_i64]; omega
        have v4' : IntKind.i64.wrap (x4 * 256) = x4 * 256 := by rw [IntKind.wrap_i64]; omega
        have v5 : IntKind.i64.wrap x5 = x5 := by rw [IntKind.wrap_i64]; omega
        have v6 : IntKind.i8.wrap x6 = s8 x6 := wrap_i8 x6 b6
        have v6b : -128 ≤ s8 x6 ∧ s8 x6 ≤ 127 := by unfold s8; omega
        have v6' : IntKind.i64.wrap (s8 x6) = s8 x6 := by rw [IntKind.wrap_i64]; omega
        have v7 := s24_eq x3 x4 x5 b3 b4 b5
        clear e0 e1 e2 e3 e4 hB b0 b1 b2 b3 b4 b5 b6 v3b v6b tb h0 h8 hL hL' hc ht
        obtain ⟨V, eV, hb0, hN, hz⟩ := fr_alloc w
        have k0 := (bc hb0 hlt).trans c0
        have k1 := (bc hb0 hlt).trans c1
        have k2 := (bc hb0 hlt).trans c2
        have k3 := (bc hb0 hlt).trans c3
        have k4 := (bc hb0 hlt).trans c4
        have k5 := (bc hb0 hlt).trans c5
        have k6 := (bc hb0 hlt).trans c6
        clear c0 c1 c2 c3 c4 c5 c6
        replace hN := Lib.hid hN
        replace eV := Lib.hid eV
        replace hb0 := Lib.hid hb0
        replace hz := Lib.hid hz
        go_enter Try.func135, Try.ntmps135
        go_upto_region 1 with (fail)
        rw [← eV.out]
        go_wp2_with fail
        refine (SM.out _ hb0.out).mono ?_
        rintro e w1 ⟨rfl, rfl⟩
        go_wp2_with fail
        refine region_moves (fun u => u.cell? ⟨b, off + 1, none⟩ = some (.int .u8 x1) ∧ u.cell? ⟨b, off + 2, none⟩ = some (.int .u8 x2) ∧ u.cell? ⟨b, off + 3, none⟩ = some (.int .u8 x3) ∧ u.cell? ⟨b, off + 4, none⟩ = some (.int .u8 x4) ∧ u.cell? ⟨b, off + 5, none⟩ = some (.int .u8 x5) ∧ u.cell? ⟨b, off + 6, none⟩ = some (.int .u8 x6)) [(31, [(30, 31), (0, 31), (1, 31), (2, 31), (3, 31), (4, 31), (5, 31), (6, 31), (7, 31), (8, 31), (9, 31), (10, 31), (11, 31), (12, 31), (13, 31), (14, 31), (15, 31), (16, 31), (17, 31), (18, 31), (19, 31), (20, 31), (21, 31), (22, 31), (23, 31), (24, 31), (25, 31), (26, 31), (27, 31), (28, 31), (29, 31)])] [(.free, 0), (.free, 1), (.take, 2), (.free, 3), (.free, 4), (.free, 5), (.take, 6), (.free, 7), (.free, 8), (.free, 9), (.take, 10), (.free, 11), (.free, 12), (.free, 13), (.free, 14), (.free, 15), (.take, 16), (.free, 17), (.free, 18), (.free, 19), (.free, 20), (.free, 21), (.take, 22), (.free, 23), (.free, 24), (.free, 25), (.free, 26), (.take, 27), (.free, 28), (.free, 29), (.free, 30), (.late, 31), (.free, 32)] _ (by kernel_rfl) (by kernel_rfl) (by kernel_rfl) (by kernel_rfl) (by decide) rfl (fun _ _ _ _ _ h => h) ?_
        simp only [List.filterMap_cons, List.filterMap_nil, List.getElem?_toArray, List.getElem?_cons_zero, List.getElem?_cons_succ, Option.map_some]
        iterate 2
          first
            | (refine mv_free ?_ (Or.inl ⟨by rfl, ?_⟩) (⟨k1, k2, k3, k4, k5, k6⟩) ?_
               rotate_left 1
               · intro u
                 go_simp
                 try simp only [d1]
                 try simp only [d2]
                 try simp only [d3]
                 try with_reducible rfl
               simp only [Act.put, List.setIfInBounds_toArray, List.set_cons_zero, List.set_cons_succ])
            | (refine mv_free _ (Or.inr ⟨by rfl, rfl⟩) (⟨k1, k2, k3, k4, k5, k6⟩) ?_
               simp only [Act.put, List.setIfInBounds_toArray, List.set_cons_zero, List.set_cons_succ])
        iterate 1
          first
            | (refine mv_take ?_ (Or.inl ⟨by rfl, ?_⟩) (⟨k1, k2, k3, k4, k5, k6⟩) ?_
               rotate_left 1
               · intro u hu
                 (try dsimp only at hu)
                 go_simp
                 try with_reducible rfl
               simp only [Act.put, List.setIfInBounds_toArray, List.set_cons_zero, List.set_cons_succ])
            | (refine mv_take _ (Or.inr ⟨by rfl, rfl⟩) (⟨k1, k2, k3, k4, k5, k6⟩) ?_
               simp only [Act.put, List.setIfInBounds_toArray, List.set_cons_zero, List.set_cons_succ])
        iterate 3
          first
            | (refine mv_free ?_ (Or.inl ⟨by rfl, ?_⟩) (⟨k1, k2, k3, k4, k5, k6⟩) ?_
               rotate_left 1
               · intro u
                 go_simp
                 try simp only [d1]
                 try simp only [d2]
                 try simp only [d3]
                 try with_reducible rfl
               simp only [Act.put, List.setIfInBounds_toArray, List.set_cons_zero, List.set_cons_succ])
            | (refine mv_free _ (Or.inr ⟨by rfl, rfl⟩) (⟨k1, k2, k3, k4, k5, k6⟩) ?_
               simp only [Act.put, List.setIfInBounds_toArray, List.set_cons_zero, List.set_cons_succ])
        iterate 1
          first
            | (refine mv_take ?_ (Or.inl ⟨by rfl, ?_⟩) (⟨k1, k2, k3, k4, k5, k6⟩) ?_
               rotate_left 1
               · intro u hu
                 (try dsimp only at hu)
                 go_simp
                 try with_reducible rfl
               simp only [Act.put, List.setIfInBounds_toArray, List.set_cons_zero, List.set_cons_succ])
            | (refine mv_take _ (Or.inr ⟨by rfl, rfl⟩) (⟨k1, k2, k3, k4, k5, k6⟩) ?_
               simp only [Act.put, List.setIfInBounds_toArray, List.set_cons_zero, List.set_cons_succ])
        iterate 3
          first
            | (refine mv_free ?_ (Or.inl ⟨by rfl, ?_⟩) (⟨k1, k2, k3, k4, k5, k6⟩) ?_
               rotate_left 1
               · intro u
                 go_simp
                 try simp only [d1]
                 try simp only [d2]
                 try simp only [d3]
                 try with_reducible rfl
               simp only [Act.put, List.setIfInBounds_toArray, List.set_cons_zero, List.set_cons_succ])
            | (refine mv_free _ (Or.inr ⟨by rfl, rfl⟩) (⟨k1, k2, k3, k4, k5, k6⟩) ?_
               simp only [Act.put, List.setIfInBounds_toArray, List.set_cons_zero, List.set_cons_succ])
        iterate 1
          first
            | (refine mv_take ?_ (Or.inl ⟨by rfl, ?_⟩) (⟨k1, k2, k3, k4, k5, k6⟩) ?_
               rotate_left 1
               · intro u hu
                 (try dsimp only at hu)
                 go_simp
                 try with_reducible rfl
               simp only [Act.put, List.setIfInBounds_toArray, List.set_cons_zero, List.set_cons_succ])
            | (refine mv_take _ (Or.inr ⟨by rfl, rfl⟩) (⟨k1, k2, k3, k4, k5, k6⟩) ?_
               simp only [Act.put, List.setIfInBounds_toArray, List.set_cons_zero, List.set_cons_succ])
        iterate 5
          first
            | (refine mv_free ?_ (Or.inl ⟨by rfl, ?_⟩) (⟨k1, k2, k3, k4, k5, k6⟩) ?_
               rotate_left 1
               · intro u
                 go_simp
                 try simp only [d1]
                 try simp only [d2]
                 try simp only [d3]
                 try with_reducible rfl
               simp only [Act.put, List.setIfInBounds_toArray, List.set_cons_zero, List.set_cons_succ])
            | (refine mv_free _ (Or.inr ⟨by rfl, rfl⟩) (⟨k1, k2, k3, k4, k5, k6⟩) ?_
               simp only [Act.put, List.setIfInBounds_toArray, List.set_cons_zero, List.set_cons_succ])
        iterate 1
          first
            | (refine mv_take ?_ (Or.inl ⟨by rfl, ?_⟩) (⟨k1, k2, k3, k4, k5, k6⟩) ?_
               rotate_left 1
               · intro u hu
                 (try dsimp only at hu)
                 go_simp
                 try with_reducible rfl
               simp only [Act.put, List.setIfInBounds_toArray, List.set_cons_zero, List.set_cons_succ])
            | (refine mv_take _ (Or.inr ⟨by rfl, rfl⟩) (⟨k1, k2, k3, k4, k5, k6⟩) ?_
               simp only [Act.put, List.setIfInBounds_toArray, List.set_cons_zero, List.set_cons_succ])
        iterate 5
          first
            | (refine mv_free ?_ (Or.inl ⟨by rfl, ?_⟩) (⟨k1, k2, k3, k4, k5, k6⟩) ?_
               rotate_left 1
               · intro u
                 go_simp
                 try simp only [d1]
                 try simp only [d2]
                 try simp only [d3]
                 try with_reducible rfl
               simp only [Act.put, List.setIfInBounds_toArray, List.set_cons_zero, List.set_cons_succ])
            | (refine mv_free _ (Or.inr ⟨by rfl, rfl⟩) (⟨k1, k2, k3, k4, k5, k6⟩) ?_
               simp only [Act.put, List.setIfInBounds_toArray, List.set_cons_zero, List.set_cons_succ])
        iterate 1
          first
            | (refine mv_take ?_ (Or.inl ⟨by rfl, ?_⟩) (⟨k1, k2, k3, k4, k5, k6⟩) ?_
               rotate_left 1
               · intro u hu
                 (try dsimp only at hu)
                 go_simp
                 try with_reducible rfl
               simp only [Act.put, List.setIfInBounds_toArray, List.set_cons_zero, List.set_cons_succ])
            | (refine mv_take _ (Or.inr ⟨by rfl, rfl⟩) (⟨k1, k2, k3, k4, k5, k6⟩) ?_
               simp only [Act.put, List.setIfInBounds_toArray, List.set_cons_zero, List.set_cons_succ])
        iterate 4
          first
            | (refine mv_free ?_ (Or.inl ⟨by rfl, ?_⟩) (⟨k1, k2, k3, k4, k5, k6⟩) ?_
               rotate_left 1
               · intro u
                 go_simp
                 try simp only [d1]
                 try simp only [d2]
                 try simp only [d3]
                 try with_reducible rfl
               simp only [Act.put, List.setIfInBounds_toArray, List.set_cons_zero, List.set_cons_succ])
            | (refine mv_free _ (Or.inr ⟨by rfl, rfl⟩) (⟨k1, k2, k3, k4, k5, k6⟩) ?_
               simp only [Act.put, List.setIfInBounds_toArray, List.set_cons_zero, List.set_cons_succ])
        iterate 1
          first
            | (refine mv_take ?_ (Or.inl ⟨by rfl, ?_⟩) (⟨k1, k2, k3, k4, k5, k6⟩) ?_
               rotate_left 1
               · intro u hu
                 (try dsimp only at hu)
                 go_simp
                 try with_reducible rfl
               simp only [Act.put, List.setIfInBounds_toArray, List.set_cons_zero, List.set_cons_succ])
            | (refine mv_take _ (Or.inr ⟨by rfl, rfl⟩) (⟨k1, k2, k3, k4, k5, k6⟩) ?_
               simp only [Act.put, List.setIfInBounds_toArray, List.set_cons_zero, List.set_cons_succ])
        iterate 3
          first
            | (refine mv_free ?_ (Or.inl ⟨by rfl, ?_⟩) (⟨k1, k2, k3, k4, k5, k6⟩) ?_
               rotate_left 1
               · intro u
                 go_simp
                 try simp only [d1]
                 try simp only [d2]
                 try simp only [d3]
                 try with_reducible rfl
               simp only [Act.put, List.setIfInBounds_toArray, List.set_cons_zero, List.set_cons_succ])
            | (refine mv_free _ (Or.inr ⟨by rfl, rfl⟩) (⟨k1, k2, k3, k4, k5, k6⟩) ?_
               simp only [Act.put, List.setIfInBounds_toArray, List.set_cons_zero, List.set_cons_succ])
        obtain ⟨q0, q1, q2, q3, p0, p1, p2, p3⟩ := hN.out
        refine mv_late (fun K hK => ?_)
        go_simp
        refine hK.out (fun _ => True) _ _ ?_
        clear hK K
        iterate 1
          first
            | (refine mv_free ?_ (Or.inl ⟨by rfl, ?_⟩) (trivial) ?_
               rotate_left 1
               · intro u
                 go_simp
                 try simp only [d1]
                 try simp only [d2]
                 try simp only [d3]
                 try with_reducible rfl
               simp only [Act.put, List.setIfInBounds_toArray, List.set_cons_zero, List.set_cons_succ])
            | (refine mv_free _ (Or.inr ⟨by rfl, rfl⟩) (trivial) ?_
               simp only [Act.put, List.setIfInBounds_toArray, List.set_cons_zero, List.set_cons_succ])
        refine mv_done ?_
        clear q0 q1 q2 q3 p0 p1 p2 p3 k0 k1 k2 k3 k4 k5 k6
        obtain ⟨u, eu, z0, z1, z2, z3, hb9⟩ := hN.out.laid x1 x2 (s24 (x3 * 65536 + x4 * 256 + x5)) (s8 x6)
        rw [← eu]
        replace eu := Lib.hid eu
        have hb := Lib.hid (show Below w.heap.size w u.drew from (hb0.out.trans hb9).drew)
        clear hb9
        go_wp2
        refine bodyPost_ret (v := .tuple #[.agg #[.int .i64 x1, .int .i64 x2, .int .i64 (s24 (x3 * 65536 + x4 * 256 + x5)), .int .i64 (s8 x6)], .int .i64 0]) (by simp [results, Try.results135, go_sem, z0, z1, z2, z3]) rfl ⟨rfl, hb.out⟩
      · obtain ⟨e0, e1, e2, e3, e4⟩ := tk4 h8 h0 ht
        rw [e0, e1, e2, e3, e4]
        have nz : (256 - tot l) % 256 ≠ 0 := by omega
        generalize (256 - tot l) % 256 = y at *
        have c0' := (bc (show Below w.heap.size w (w.alloc (.cells #[.int .i64 0, .int .i64 0, .int .i64 0, .int .i64 0] 45)) from (by repeat (first | exact Below.refl _ _ | assumption | apply Below.drew | apply below_drewN | (refine Below.alloc ?_ (by first | exact Nat.le_refl _ | omega | (simp <;> omega)) _) | (refine Below.setCell ?_ (by first | exact Nat.le_refl _ | omega | (simp <;> omega)) _)))) hlt).trans c0
        have d1 : (y != 0) = true := by simp [nz]
        clear e0 e1 e2 e3 e4 hB b0 b1 b2 b3 b4 b5 b6 tb h0 h8 hL hL' hc ht c0 c1 c2 c3 c4 c5 c6
        go_enter Try.func135, Try.ntmps135
        go_wp2_with fail
        refine (SM.out _ (by repeat (first | exact Below.refl _ _ | assumption | apply Below.drew | apply below_drewN | (refine Below.alloc ?_ (by first | exact Nat.le_refl _ | omega | (simp <;> omega)) _) | (refine Below.setCell ?_ (by first | exact Nat.le_refl _ | omega | (simp <;> omega)) _)))).mono ?_
        rintro e w1 ⟨rfl, rfl⟩
        go_wp2
        exact bodyPost_ret (v := .tuple #[.agg #[.int .i64 0, .int .i64 0, .int .i64 0, .int .i64 0], .int .i64 4]) (by simp [results, Try.results135, go_sem]) rfl ⟨rfl, (by repeat (first | exact Below.refl _ _ | assumption | apply Below.drew | apply below_drewN | (refine Below.alloc ?_ (by first | exact Nat.le_refl _ | omega | (simp <;> omega)) _) | (refine Below.setCell ?_ (by first | exact Nat.le_refl _ | omega | (simp <;> omega)) _)))⟩
    · obtain ⟨e0, e1, e2, e3, e4⟩ := tk3 h8 h0
      rw [e0, e1, e2, e3, e4, h8]
      generalize l.getD 0 0 = x0 at *
      have d1 : (x0 != 165) = true := by simp [h0]
      have c0' := (bc (show Below w.heap.size w (w.alloc (.cells #[.int .i64 0, .int .i64 0, .int .i64 0, .int .i64 0] 45)) from (by repeat (first | exact Below.refl _ _ | assumption | apply Below.drew | apply below_drewN | (refine Below.alloc ?_ (by first | exact Nat.le_refl _ | omega | (simp <;> omega)) _) | (refine Below.setCell ?_ (by first | exact Nat.le_refl _ | omega | (simp <;> omega)) _)))) hlt).trans c0
      clear e0 e1 e2 e3 e4 hB b0 b1 b2 b3 b4 b5 b6 h8 hL hL' hc c0 c1 c2 c3 c4 c5 c6
      go_enter Try.func135, Try.ntmps135
      go_wp2
      exact bodyPost_ret (v := .tuple #[.agg #[.int .i64 0, .int .i64 0, .int .i64 0, .int .i64 0], .int .i64 3]) (by simp [results, Try.results135, go_sem]) rfl ⟨rfl, (by repeat (first | exact Below.refl _ _ | assumption | apply Below.drew | apply below_drewN | (refine Below.alloc ?_ (by first | exact Nat.le_refl _ | omega | (simp <;> omega)) _) | (refine Below.setCell ?_ (by first | exact Nat.le_refl _ | omega | (simp <;> omega)) _)))⟩
  · obtain ⟨e0, e1, e2, e3, e4⟩ := tk12 h8
    rw [e0, e1, e2, e3, e4]
    have d1 : ((l.length : Int) != 8) = true := by simp; omega
    clear e0 e1 e2 e3 e4 hB hL hr
    go_enter Try.func135, Try.ntmps135
    go_wp2
    exact bodyPost_ret (v := .tuple #[.agg #[.int .i64 0, .int .i64 0, .int .i64 0, .int .i64 0], .int .i64 12]) (by simp [results, Try.results135, go_sem]) rfl ⟨rfl, (by repeat (first | exact Below.refl _ _ | assumption | apply Below.drew | apply below_drewN | (refine Below.alloc ?_ (by first | exact Nat.le_refl _ | omega | (simp <;> omega)) _) | (refine Below.setCell ?_ (by first | exact Nat.le_refl _ | omega | (simp <;> omega)) _)))⟩
set_option maxRecDepth 100000 in
set_option maxHeartbeats 8000000 in
theorem rtake (a : Option Addr) (cap : Nat) (l : List Int) (w : World) (hr : RowIs .u8 w a l) (hL : l.length ≤ maxLen) (hB : BYT l) :
    Calls Try.prog 29 #[.slice a l.length cap] w fun e w' => e = .returned (.tuple #[.agg #[.int .i64 (tkI l), .int .i64 (tkS l), .int .i64 (tkV l), .int .i64 (tkT l)], .int .i64 (tkE l)]) ∧ Below w.heap.size w w' := by
  have hL' : (l.length : Int) ≤ 9223372036854775807 := by unfold maxLen at hL; omega
  by_cases h8 : l.length = 8
  · rcases hr with rfl | ⟨b, off, rfl, hlt, hc⟩
    · simp at h8
    have c0 := hc 0 (by omega)
    have c1 := hc 1 (by omega)
    have c2 := hc 2 (by omega)
    have c3 := hc 3 (by omega)
    have c4 := hc 4 (by omega)
    have c5 := hc 5 (by omega)
    have c6 := hc 6 (by omega)
    rw [Nat.add_zero] at c0
    have b0 := hB 0 (by omega)
    have b3 := hB 3 (by omega)
    have b4 := hB 4 (by omega)
    have b5 := hB 5 (by omega)
    have b6 := hB 6 (by omega)
    have b1 := hB 1 (by omega)
    have b2 := hB 2 (by omega)
    by_cases h0 : l.getD 0 0 = 165
    · have SM := Lib.hid (fun u (h : Below w.heap.size w u) => rtotal (some ⟨b, off, none⟩) cap l u (.inr ⟨b, off, rfl, Nat.lt_of_lt_of_le hlt h.size, fun i hi => (h.cell (p := ⟨b, off + i, none⟩) hlt).trans (hc i hi)⟩) hL hB)
      rw [h8] at SM ⊢
      have tb := tot_bd l
      rw [h0] at c0
      by_cases ht : tot l = 0
      · obtain ⟨e0, e1, e2, e3, e4⟩ := tk0 h8 h0 ht
        rw [e0, e1, e2, e3, e4]
        rw [ht] at SM
        generalize l.getD 1 0 = x1 at *
        generalize l.getD 2 0 = x2 at *
        generalize l.getD 3 0 = x3 at *
        generalize l.getD 4 0 = x4 at *
        generalize l.getD 5 0 = x5 at *
        generalize l.getD 6 0 = x6 at *
        clear e0 e1 e2 e3 e4 hB b0 tb h0 h8 hL hL' hc ht
        obtain ⟨v, hv⟩ : ∃ v, v = x3 * 65536 + x4 * 256 + x5 := ⟨_, rfl⟩
        have vb : 0 ≤ v ∧ v < 16777216 := by omega
        have v1 : IntKind.i64.wrap x1 = x1 := by rw [IntKind.wrap_i64]; omega
        have v2 : IntKind.i64.wrap x2 = x2 := by rw [IntKind.wrap_i64]; omega
        have v3 : IntKind.i64.wrap x3 = x3 := by rw [IntKind.wrap_i64]; omega
        have v3' : IntKind.i64.wrap (x3 * 65536) = x3 * 65536 := by rw [IntKind.wrap_i64]; omega
        have v4 : IntKind.i64.wrap x4 = x4 := by rw [IntKind.wrap_i64]; omega
        have v4' : IntKind.i64.wrap (x4 * 256) = x4 * 256 := by rw [IntKind.wrap_i64]; omega
        have v5 : IntKind.i64.wrap x5 = x5 := by rw [IntKind.wrap_i64]; omega
        have v6 : IntKind.i64.wrap x6 = x6 := by rw [IntKind.wrap_i64]; omega
        have v7 : IntKind.i64.wrap (x3 * 65536 + x4 * 256) = x3 * 65536 + x4 * 256 := by rw [IntKind.wrap_i64]; omega
        have v8 : IntKind.i64.wrap (x3 * 65536 + x4 * 256 + x5) = v := by rw [IntKind.wrap_i64]; omega
        obtain ⟨vv, hvv⟩ : ∃ vv, vv = v - 16777216 := ⟨_, rfl⟩
        obtain ⟨xx, hxx⟩ : ∃ xx, xx = x6 - 256 := ⟨_, rfl⟩
        have v9 : IntKind.i64.wrap (v - 16777216) = vv := by rw [IntKind.wrap_i64]; omega
        have v10 : IntKind.i64.wrap (x6 - 256) = xx := by rw [IntKind.wrap_i64]; omega
        rw [← hv]
        replace hv := Lib.hid hv
        obtain ⟨V, eV, hb0, hN, hz⟩ := fr_alloc w
        have k0 := (bc hb0 hlt).trans c0
        have k1 := (bc hb0 hlt).trans c1
        have k2 := (bc hb0 hlt).trans c2
        have k3 := (bc hb0 hlt).trans c3
        have k4 := (bc hb0 hlt).trans c4
        have k5 := (bc hb0 hlt).trans c5
        have k6 := (bc hb0 hlt).trans c6
        clear c0 c1 c2 c3 c4 c5 c6
        replace hN := Lib.hid hN
        replace eV := Lib.hid eV
        replace hb0 := Lib.hid hb0
        replace hz := Lib.hid hz
        rcases (show (8388607 < v ∧ 127 < x6) ∨ (8388607 < v ∧ x6 ≤ 127) ∨ (v ≤ 8388607 ∧ 127 < x6) ∨ (v ≤ 8388607 ∧ x6 ≤ 127) by omega) with ⟨g1, g2⟩ | ⟨g1, g2⟩ | ⟨g1, g2⟩ | ⟨g1, g2⟩
        all_goals
          first
            | rw [show s24 v = vv from by unfold s24; omega]
            | rw [show s24 v = v from by unfold s24; omega]
          first
            | rw [show s8 x6 = xx from by unfold s8; omega]
            | rw [show s8 x6 = x6 from by unfold s8; omega]
          replace hvv := Lib.hid hvv
          replace hxx := Lib.hid hxx
        · go_enter Try.func29, Try.ntmps29
          go_upto_region 1 with (fail)
          rw [← eV.out]
          go_wp2_with fail
          refine (SM.out _ hb0.out).mono ?_
          rintro e w1 ⟨rfl, rfl⟩
          go_wp2_with fail
          refine region_moves (fun u => u.cell? ⟨b, off + 3, none⟩ = some (.int .u8 x3) ∧ u.cell? ⟨b, off + 4, none⟩ = some (.int .u8 x4) ∧ u.cell? ⟨b, off + 5, none⟩ = some (.int .u8 x5)) [] [(.free, 0), (.free, 1), (.take, 2), (.free, 3), (.free, 4), (.free, 5), (.free, 6), (.take, 7), (.free, 8), (.free, 9), (.free, 10), (.free, 11), (.free, 12), (.take, 13), (.free, 14), (.free, 15), (.free, 16)] _ (by kernel_rfl) (by kernel_rfl) (by kernel_rfl) (by kernel_rfl) (by decide) rfl (fun _ _ _ _ _ h => h) ?_
          simp only [List.filterMap_cons, List.filterMap_nil, List.getElem?_toArray, List.getElem?_cons_zero, List.getElem?_cons_succ, Option.map_some]
          iterate 2
            first
              | (refine mv_free ?_ (Or.inl ⟨by rfl, ?_⟩) (⟨k3, k4, k5⟩) ?_
                 rotate_left 1
                 · intro u
                   go_simp
                   try simp only [d1]
                   try simp only [d2]
                   try simp only [d3]
                   try with_reducible rfl
                 simp only [Act.put, List.setIfInBounds_toArray, List.set_cons_zero, List.set_cons_succ])
              | (refine mv_free _ (Or.inr ⟨by rfl, rfl⟩) (⟨k3, k4, k5⟩) ?_
                 simp only [Act.put, List.setIfInBounds_toArray, List.set_cons_zero, List.set_cons_succ])
          iterate 1
            first
              | (refine mv_take ?_ (Or.inl ⟨by rfl, ?_⟩) (⟨k3, k4, k5⟩) ?_
                 rotate_left 1
                 · intro u hu
                   (try dsimp only at hu)
                   go_simp
                   try with_reducible rfl
                 simp only [Act.put, List.setIfInBounds_toArray, List.set_cons_zero, List.set_cons_succ])
              | (refine mv_take _ (Or.inr ⟨by rfl, rfl⟩) (⟨k3, k4, k5⟩) ?_
                 simp only [Act.put, List.setIfInBounds_toArray, List.set_cons_zero, List.set_cons_succ])
          iterate 4
            first
              | (refine mv_free ?_ (Or.inl ⟨by rfl, ?_⟩) (⟨k3, k4, k5⟩) ?_
                 rotate_left 1
                 · intro u
                   go_simp
                   try simp only [d1]
                   try simp only [d2]
                   try simp only [d3]
                   try with_reducible rfl
                 simp only [Act.put, List.setIfInBounds_toArray, List.set_cons_zero, List.set_cons_succ])
              | (refine mv_free _ (Or.inr ⟨by rfl, rfl⟩) (⟨k3, k4, k5⟩) ?_
                 simp only [Act.put, List.setIfInBounds_toArray, List.set_cons_zero, List.set_cons_succ])
          iterate 1
            first
              | (refine mv_take ?_ (Or.inl ⟨by rfl, ?_⟩) (⟨k3, k4, k5⟩) ?_
                 rotate_left 1
                 · intro u hu
                   (try dsimp only at hu)
                   go_simp
                   try with_reducible rfl
                 simp only [Act.put, List.setIfInBounds_toArray, List.set_cons_zero, List.set_cons_succ])
              | (refine mv_take _ (Or.inr ⟨by rfl, rfl⟩) (⟨k3, k4, k5⟩) ?_
                 simp only [Act.put, List.setIfInBounds_toArray, List.set_cons_zero, List.set_cons_succ])
          iterate 5
            first
              | (refine mv_free ?_ (Or.inl ⟨by rfl, ?_⟩) (⟨k3, k4, k5⟩) ?_
                 rotate_left 1
                 · intro u
                   go_simp
                   try simp only [d1]
                   try simp only [d2]
                   try simp only [d3]
                   try with_reducible rfl
                 simp only [Act.put, List.setIfInBounds_toArray, List.set_cons_zero, List.set_cons_succ])
              | (refine mv_free _ (Or.inr ⟨by rfl, rfl⟩) (⟨k3, k4, k5⟩) ?_
                 simp only [Act.put, List.setIfInBounds_toArray, List.set_cons_zero, List.set_cons_succ])
          iterate 1
            first
              | (refine mv_take ?_ (Or.inl ⟨by rfl, ?_⟩) (⟨k3, k4, k5⟩) ?_
                 rotate_left 1
                 · intro u hu
                   (try dsimp only at hu)
                   go_simp
                   try with_reducible rfl
                 simp only [Act.put, List.setIfInBounds_toArray, List.set_cons_zero, List.set_cons_succ])
              | (refine mv_take _ (Or.inr ⟨by rfl, rfl⟩) (⟨k3, k4, k5⟩) ?_
                 simp only [Act.put, List.setIfInBounds_toArray, List.set_cons_zero, List.set_cons_succ])
          iterate 3
            first
              | (refine mv_free ?_ (Or.inl ⟨by rfl, ?_⟩) (⟨k3, k4, k5⟩) ?_
                 rotate_left 1
                 · intro u
                   go_simp
                   try simp only [d1]
                   try simp only [d2]
                   try simp only [d3]
                   try with_reducible rfl
                 simp only [Act.put, List.setIfInBounds_toArray, List.set_cons_zero, List.set_cons_succ])
              | (refine mv_free _ (Or.inr ⟨by rfl, rfl⟩) (⟨k3, k4, k5⟩) ?_
                 simp only [Act.put, List.setIfInBounds_toArray, List.set_cons_zero, List.set_cons_succ])
          refine mv_done ?_
          go_wp2_with fail
          refine region_moves (fun u => u.cell? ⟨b, off + 1, none⟩ = some (.int .u8 x1) ∧ u.cell? ⟨b, off + 2, none⟩ = some (.int .u8 x2)) [(11, [(10, 11), (0, 11), (1, 11), (2, 11), (3, 11), (4, 11), (5, 11), (6, 11), (7, 11), (8, 11), (9, 11)])] [(.free, 0), (.free, 1), (.take, 2), (.free, 3), (.free, 4), (.free, 5), (.take, 6), (.free, 7), (.free, 8), (.free, 9), (.free, 10), (.late, 11), (.free, 12)] _ (by kernel_rfl) (by kernel_rfl) (by kernel_rfl) (by kernel_rfl) (by decide) rfl (fun _ _ _ _ _ h => h) ?_
          simp only [List.filterMap_cons, List.filterMap_nil, List.getElem?_toArray, List.getElem?_cons_zero, List.getElem?_cons_succ, Option.map_some]
          iterate 2
            first
              | (refine mv_free ?_ (Or.inl ⟨by rfl, ?_⟩) (⟨k1, k2⟩) ?_
                 rotate_left 1
                 · intro u
                   go_simp
                   try simp only [d1]
                   try simp only [d2]
                   try simp only [d3]
                   try with_reducible rfl
                 simp only [Act.put, List.setIfInBounds_toArray, List.set_cons_zero, List.set_cons_succ])
              | (refine mv_free _ (Or.inr ⟨by rfl, rfl⟩) (⟨k1, k2⟩) ?_
                 simp only [Act.put, List.setIfInBounds_toArray, List.set_cons_zero, List.set_cons_succ])
          iterate 1
            first
              | (refine mv_take ?_ (Or.inl ⟨by rfl, ?_⟩) (⟨k1, k2⟩) ?_
                 rotate_left 1
                 · intro u hu
                   (try dsimp only at hu)
                   go_simp
                   try with_reducible rfl
                 simp only [Act.put, List.setIfInBounds_toArray, List.set_cons_zero, List.set_cons_succ])
              | (refine mv_take _ (Or.inr ⟨by rfl, rfl⟩) (⟨k1, k2⟩) ?_
                 simp only [Act.put, List.setIfInBounds_toArray, List.set_cons_zero, List.set_cons_succ])
          iterate 3
            first
              | (refine mv_free ?_ (Or.inl ⟨by rfl, ?_⟩) (⟨k1, k2⟩) ?_
                 rotate_left 1
                 · intro u
                   go_simp
                   try simp only [d1]
                   try simp only [d2]
                   try simp only [d3]
                   try with_reducible rfl
                 simp only [Act.put, List.setIfInBounds_toArray, List.set_cons_zero, List.set_cons_succ])
              | (refine mv_free _ (Or.inr ⟨by rfl, rfl⟩) (⟨k1, k2⟩) ?_
                 simp only [Act.put, List.setIfInBounds_toArray, List.set_cons_zero, List.set_cons_succ])
          iterate 1
            first
              | (refine mv_take ?_ (Or.inl ⟨by rfl, ?_⟩) (⟨k1, k2⟩) ?_
                 rotate_left 1
                 · intro u hu
                   (try dsimp only at hu)
                   go_simp
                   try with_reducible rfl
                 simp only [Act.put, List.setIfInBounds_toArray, List.set_cons_zero, List.set_cons_succ])
              | (refine mv_take _ (Or.inr ⟨by rfl, rfl⟩) (⟨k1, k2⟩) ?_
                 simp only [Act.put, List.setIfInBounds_toArray, List.set_cons_zero, List.set_cons_succ])
          iterate 4
            first
              | (refine mv_free ?_ (Or.inl ⟨by rfl, ?_⟩) (⟨k1, k2⟩) ?_
                 rotate_left 1
                 · intro u
                   go_simp
                   try simp only [d1]
                   try simp only [d2]
                   try simp only [d3]
                   try with_reducible rfl
                 simp only [Act.put, List.setIfInBounds_toArray, List.set_cons_zero, List.set_cons_succ])
              | (refine mv_free _ (Or.inr ⟨by rfl, rfl⟩) (⟨k1, k2⟩) ?_
                 simp only [Act.put, List.setIfInBounds_toArray, List.set_cons_zero, List.set_cons_succ])
          obtain ⟨q0, q1, q2, q3, p0, p1, p2, p3⟩ := hN.out
          refine mv_late (fun K hK => ?_)
          go_simp
          refine hK.out (fun _ => True) _ _ ?_
          clear hK K
          iterate 1
            first
              | (refine mv_free ?_ (Or.inl ⟨by rfl, ?_⟩) (trivial) ?_
                 rotate_left 1
                 · intro u
                   go_simp
                   try simp only [d1]
                   try simp only [d2]
                   try simp only [d3]
                   try with_reducible rfl
                 simp only [Act.put, List.setIfInBounds_toArray, List.set_cons_zero, List.set_cons_succ])
              | (refine mv_free _ (Or.inr ⟨by rfl, rfl⟩) (trivial) ?_
                 simp only [Act.put, List.setIfInBounds_toArray, List.set_cons_zero, List.set_cons_succ])
          refine mv_done ?_
          clear q0 q1 q2 q3 p0 p1 p2 p3 k0 k1 k2 k3 k4 k5 k6
          obtain ⟨u, eu, z0, z1, z2, z3, hb9⟩ := hN.out.laid x1 x2 vv xx
          rw [← eu]
          replace eu := Lib.hid eu
          have hb := Lib.hid (show Below w.heap.size w u.drew.drew from (hb0.out.trans hb9).drew.drew)
          clear hb9
          go_wp2
          refine bodyPost_ret (v := .tuple #[.agg #[.int .i64 x1, .int .i64 x2, .int .i64 vv, .int .i64 xx], .int .i64 0]) (by simp [results, Try.results29, go_sem, z0, z1, z2, z3]) rfl ⟨rfl, hb.out⟩
        · go_enter Try.func29, Try.ntmps29
          go_upto_region 1 with (fail)
          rw [← eV.out]
          go_wp2_with fail
          refine (SM.out _ hb0.out).mono ?_
          rintro e w1 ⟨rfl, rfl⟩
          go_wp2_with fail
          refine region_moves (fun u => u.cell? ⟨b, off + 3, none⟩ = some (.int .u8 x3) ∧ u.cell? ⟨b, off + 4, none⟩ = some (.int .u8 x4) ∧ u.cell? ⟨b, off + 5, none⟩ = some (.int .u8 x5)) [] [(.free, 0), (.free, 1), (.take, 2), (.free, 3), (.free, 4), (.free, 5), (.free, 6), (.take, 7), (.free, 8), (.free, 9), (.free, 10), (.free, 11), (.free, 12), (.take, 13), (.free, 14), (.free, 15), (.free, 16)] _ (by kernel_rfl) (by kernel_rfl) (by kernel_rfl) (by kernel_rfl) (by decide) rfl (fun _ _ _ _ _ h => h) ?_
          simp only [List.filterMap_cons, List.filterMap_nil, List.getElem?_toArray, List.getElem?_cons_zero, List.getElem?_cons_succ, Option.map_some]
          iterate 2
            first
              | (refine mv_free ?_ (Or.inl ⟨by rfl, ?_⟩) (⟨k3, k4, k5⟩) ?_
                 rotate_left 1
                 · intro u
                   go_simp
                   try simp only [d1]
                   try simp only [d2]
                   try simp only [d3]
                   try with_reducible rfl
                 simp only [Act.put, List.setIfInBounds_toArray, List.set_cons_zero, List.set_cons_succ])
              | (refine mv_free _ (Or.inr ⟨by rfl, rfl⟩) (⟨k3, k4, k5⟩) ?_
                 simp only [Act.put, List.setIfInBounds_toArray, List.set_cons_zero, List.set_cons_succ])
          iterate 1
            first
              | (refine mv_take ?_ (Or.inl ⟨by rfl, ?_⟩) (⟨k3, k4, k5⟩) ?_
                 rotate_left 1
                 · intro u hu
                   (try dsimp only at hu)
                   go_simp
                   try with_reducible rfl
                 simp only [Act.put, List.setIfInBounds_toArray, List.set_cons_zero, List.set_cons_succ])
              | (refine mv_take _ (Or.inr ⟨by rfl, rfl⟩) (⟨k3, k4, k5⟩) ?_
                 simp only [Act.put, List.setIfInBounds_toArray, List.set_cons_zero, List.set_cons_succ])
          iterate 4
            first
              | (refine mv_free ?_ (Or.inl ⟨by rfl, ?_⟩) (⟨k3, k4, k5⟩) ?_
                 rotate_left 1
                 · intro u
                   go_simp
                   try simp only [d1]
                   try simp only [d2]
                   try simp only [d3]
                   try with_reducible rfl
                 simp only [Act.put, List.setIfInBounds_toArray, List.set_cons_zero, List.set_cons_succ])
              | (refine mv_free _ (Or.inr ⟨by rfl, rfl⟩) (⟨k3, k4, k5⟩) ?_
                 simp only [Act.put, List.setIfInBounds_toArray, List.set_cons_zero, List.set_cons_succ])
          iterate 1
            first
              | (refine mv_take ?_ (Or.inl ⟨by rfl, ?_⟩) (⟨k3, k4, k5⟩) ?_
                 rotate_left 1
                 · intro u hu
                   (try dsimp only at hu)
                   go_simp
                   try with_reducible rfl
                 simp only [Act.put, List.setIfInBounds_toArray, List.set_cons_zero, List.set_cons_succ])
              | (refine mv_take _ (Or.inr ⟨by rfl, rfl⟩) (⟨k3, k4, k5⟩) ?_
                 simp only [Act.put, List.setIfInBounds_toArray, List.set_cons_zero, List.set_cons_succ])
          iterate 5
            first
              | (refine mv_free ?_ (Or.inl ⟨by rfl, ?_⟩) (⟨k3, k4, k5⟩) ?_
                 rotate_left 1
                 · intro u
                   go_simp
                   try simp only [d1]
                   try simp only [d2]
                   try simp only [d3]
                   try with_reducible rfl
                 simp only [Act.put, List.setIfInBounds_toArray, List.set_cons_zero, List.set_cons_succ])
              | (refine mv_free _ (Or.inr ⟨by rfl, rfl⟩) (⟨k3, k4, k5⟩) ?_
                 simp only [Act.put, List.setIfInBounds_toArray, List.set_cons_zero, List.set_cons_succ])
          iterate 1
            first
              | (refine mv_take ?_ (Or.inl ⟨by rfl, ?_⟩) (⟨k3, k4, k5⟩) ?_
                 rotate_left 1
                 · intro u hu
                   (try dsimp only at hu)
                   go_simp
                   try with_reducible rfl
                 simp only [Act.put, List.setIfInBounds_toArray, List.set_cons_zero, List.set_cons_succ])
              | (refine mv_take _ (Or.inr ⟨by rfl, rfl⟩) (⟨k3, k4, k5⟩) ?_
                 simp only [Act.put, List.setIfInBounds_toArray, List.set_cons_zero, List.set_cons_succ])
          iterate 3
            first
              | (refine mv_free ?_ (Or.inl ⟨by rfl, ?_⟩) (⟨k3, k4, k5⟩) ?_
                 rotate_left 1
                 · intro u
                   go_simp
                   try simp only [d1]
                   try simp only [d2]
                   try simp only [d3]
                   try with_reducible rfl
                 simp only [Act.put, List.setIfInBounds_toArray, List.set_cons_zero, List.set_cons_succ])
              | (refine mv_free _ (Or.inr ⟨by rfl, rfl⟩) (⟨k3, k4, k5⟩) ?_
                 simp only [Act.put, List.setIfInBounds_toArray, List.set_cons_zero, List.set_cons_succ])
          refine mv_done ?_
          go_wp2_with fail
          refine region_moves (fun u => u.cell? ⟨b, off + 1, none⟩ = some (.int .u8 x1) ∧ u.cell? ⟨b, off + 2, none⟩ = some (.int .u8 x2)) [(11, [(10, 11), (0, 11), (1, 11), (2, 11), (3, 11), (4, 11), (5, 11), (6, 11), (7, 11), (8, 11), (9, 11)])] [(.free, 0), (.free, 1), (.take, 2), (.free, 3), (.free, 4), (.free, 5), (.take, 6), (.free, 7), (.free, 8), (.free, 9), (.free, 10), (.late, 11), (.free, 12)] _ (by kernel_rfl) (by kernel_rfl) (by kernel_rfl) (by kernel_rfl) (by decide) rfl (fun _ _ _ _ _ h => h) ?_
          simp only [List.filterMap_cons, List.filterMap_nil, List.getElem?_toArray, List.getElem?_cons_zero, List.getElem?_cons_succ, Option.map_some]
          iterate 2
            first
              | (refine mv_free ?_ (Or.inl ⟨by rfl, ?_⟩) (⟨k1, k2⟩) ?_
                 rotate_left 1
                 · intro u
                   go_simp
                   try simp only [d1]
                   try simp only [d2]
                   try simp only [d3]
                   try with_reducible rfl
                 simp only [Act.put, List.setIfInBounds_toArray, List.set_cons_zero, List.set_cons_succ])
              | (refine mv_free _ (Or.inr ⟨by rfl, rfl⟩) (⟨k1, k2⟩) ?_
                 simp only [Act.put, List.setIfInBounds_toArray, List.set_cons_zero, List.set_cons_succ])
          iterate 1
            first
              | (refine mv_take ?_ (Or.inl ⟨by rfl, ?_⟩) (⟨k1, k2⟩) ?_
                 rotate_left 1
                 · intro u hu
                   (try dsimp only at hu)
                   go_simp
                   try with_reducible rfl
                 simp only [Act.put, List.setIfInBounds_toArray, List.set_cons_zero, List.set_cons_succ])
              | (refine mv_take _ (Or.inr ⟨by rfl, rfl⟩) (⟨k1, k2⟩) ?_
                 simp only [Act.put, List.setIfInBounds_toArray, List.set_cons_zero, List.set_cons_succ])
          iterate 3
            first
              | (refine mv_free ?_ (Or.inl ⟨by rfl, ?_⟩) (⟨k1, k2⟩) ?_
                 rotate_left 1
                 · intro u
                   go_simp
                   try simp only [d1]
                   try simp only [d2]
                   try simp only [d3]
                   try with_reducible rfl
                 simp only [Act.put, List.setIfInBounds_toArray, List.set_cons_zero, List.set_cons_succ])
              | (refine mv_free _ (Or.inr ⟨by rfl, rfl⟩) (⟨k1, k2⟩) ?_
                 simp only [Act.put, List.setIfInBounds_toArray, List.set_cons_zero, List.set_cons_succ])
          iterate 1
            first
              | (refine mv_take ?_ (Or.inl ⟨by rfl, ?_⟩) (⟨k1, k2⟩) ?_
                 rotate_left 1
                 · intro u hu
                   (try dsimp only at hu)
                   go_simp
                   try with_reducible rfl
                 simp only [Act.put, List.setIfInBounds_toArray, List.set_cons_zero, List.set_cons_succ])
              | (refine mv_take _ (Or.inr ⟨by rfl, rfl⟩) (⟨k1, k2⟩) ?_
                 simp only [Act.put, List.setIfInBounds_toArray, List.set_cons_zero, List.set_cons_succ])
          iterate 4
            first
              | (refine mv_free ?_ (Or.inl ⟨by rfl, ?_⟩) (⟨k1, k2⟩) ?_
                 rotate_left 1
                 · intro u
                   go_simp
                   try simp only [d1]
                   try simp only [d2]
                   try simp only [d3]
                   try with_reducible rfl
                 simp only [Act.put, List.setIfInBounds_toArray, List.set_cons_zero, List.set_cons_succ])
              | (refine mv_free _ (Or.inr ⟨by rfl, rfl⟩) (⟨k1, k2⟩) ?_
                 simp only [Act.put, List.setIfInBounds_toArray, List.set_cons_zero, List.set_cons_succ])
          obtain ⟨q0, q1, q2, q3, p0, p1, p2, p3⟩ := hN.out
          refine mv_late (fun K hK => ?_)
          go_simp
          refine hK.out (fun _ => True) _ _ ?_
          clear hK K
          iterate 1
            first
              | (refine mv_free ?_ (Or.inl ⟨by rfl, ?_⟩) (trivial) ?_
                 rotate_left 1
                 · intro u
                   go_simp
                   try simp only [d1]
                   try simp only [d2]
                   try simp only [d3]
                   try with_reducible rfl
                 simp only [Act.put, List.setIfInBounds_toArray, List.set_cons_zero, List.set_cons_succ])
              | (refine mv_free _ (Or.inr ⟨by rfl, rfl⟩) (trivial) ?_
                 simp only [Act.put, List.setIfInBounds_toArray, List.set_cons_zero, List.set_cons_succ])
          refine mv_done ?_
          clear q0 q1 q2 q3 p0 p1 p2 p3 k0 k1 k2 k3 k4 k5 k6
          obtain ⟨u, eu, z0, z1, z2, z3, hb9⟩ := hN.out.laid x1 x2 vv x6
          rw [← eu]
          replace eu := Lib.hid eu
          have hb := Lib.hid (show Below w.heap.size w u.drew.drew from (hb0.out.trans hb9).drew.drew)
          clear hb9
          go_wp2
          refine bodyPost_ret (v := .tuple #[.agg #[.int .i64 x1, .int .i64 x2, .int .i64 vv, .int .i64 x6], .int .i64 0]) (by simp [results, Try.results29, go_sem, z0, z1, z2, z3]) rfl ⟨rfl, hb.out⟩
        · go_enter Try.func29, Try.ntmps29
          go_upto_region 1 with (fail)
          rw [← eV.out]
          go_wp2_with fail
          refine (SM.out _ hb0.out).mono ?_
          rintro e w1 ⟨rfl, rfl⟩
          go_wp2_with fail
          refine region_moves (fun u => u.cell? ⟨b, off + 3, none⟩ = some (.int .u8 x3) ∧ u.cell? ⟨b, off + 4, none⟩ = some (.int .u8 x4) ∧ u.cell? ⟨b, off + 5, none⟩ = some (.int .u8 x5)) [] [(.free, 0), (.free, 1), (.take, 2), (.free, 3), (.free, 4), (.free, 5), (.free, 6), (.take, 7), (.free, 8), (.free, 9), (.free, 10), (.free, 11), (.free, 12), (.take, 13), (.free, 14), (.free, 15), (.free, 16)] _ (by kernel_rfl) (by kernel_rfl) (by kernel_rfl) (by kernel_rfl) (by decide) rfl (fun _ _ _ _ _ h => h) ?_
          simp only [List.filterMap_cons, List.filterMap_nil, List.getElem?_toArray, List.getElem?_cons_zero, List.getElem?_cons_succ, Option.map_some]
          iterate 2
            first
              | (refine mv_free ?_ (Or.inl ⟨by rfl, ?_⟩) (⟨k3, k4, k5⟩) ?_
                 rotate_left 1
                 · intro u
                   go_simp
                   try simp only [d1]
                   try simp only [d2]
                   try simp only [d3]
                   try with_reducible rfl
                 simp only [Act.put, List.setIfInBounds_toArray, List.set_cons_zero, List.set_cons_succ])
              | (refine mv_free _ (Or.inr ⟨by rfl, rfl⟩) (⟨k3, k4, k5⟩) ?_
                 simp only [Act.put, List.setIfInBounds_toArray, List.set_cons_zero, List.set_cons_succ])
          iterate 1
            first
              | (refine mv_take ?_ (Or.inl ⟨by rfl, ?_⟩) (⟨k3, k4, k5⟩) ?_
                 rotate_left 1
                 · intro u hu
                   (try dsimp only at hu)
                   go_simp
                   try with_reducible rfl
                 simp only [Act.put, List.setIfInBounds_toArray, List.set_cons_zero, List.set_cons_succ])
              | (refine mv_take _ (Or.inr ⟨by rfl, rfl⟩) (⟨k3, k4, k5⟩) ?_
                 simp only [Act.put, List.setIfInBounds_toArray, List.set_cons_zero, List.set_cons_succ])
          iterate 4
            first
              | (refine mv_free ?_ (Or.inl ⟨by rfl, ?_⟩) (⟨k3, k4, k5⟩) ?_
                 rotate_left 1
                 · intro u
                   go_simp
                   try simp only [d1]
                   try simp only [d2]
                   try simp only [d3]
                   try with_reducible rfl
                 simp only [Act.put, List.setIfInBounds_toArray, List.set_cons_zero, List.set_cons_succ])
              | (refine mv_free _ (Or.inr ⟨by rfl, rfl⟩) (⟨k3, k4, k5⟩) ?_
                 simp only [Act.put, List.setIfInBounds_toArray, List.set_cons_zero, List.set_cons_succ])
          iterate 1
            first
              | (refine mv_take ?_ (Or.inl ⟨by rfl, ?_⟩) (⟨k3, k4, k5⟩) ?_
                 rotate_left 1
                 · intro u hu
                   (try dsimp only at hu)
                   go_simp
                   try with_reducible rfl
                 simp only [Act.put, List.setIfInBounds_toArray, List.set_cons_zero, List.set_cons_succ])
              | (refine mv_take _ (Or.inr ⟨by rfl, rfl⟩) (⟨k3, k4, k5⟩) ?_
                 simp only [Act.put, List.setIfInBounds_toArray, List.set_cons_zero, List.set_cons_succ])
          iterate 5
            first
              | (refine mv_free ?_ (Or.inl ⟨by rfl, ?_⟩) (⟨k3, k4, k5⟩) ?_
                 rotate_left 1
                 · intro u
                   go_simp
                   try simp only [d1]
                   try simp only [d2]
                   try simp only [d3]
                   try with_reducible rfl
                 simp only [Act.put, List.setIfInBounds_toArray, List.set_cons_zero, List.set_cons_succ])
              | (refine mv_free _ (Or.inr ⟨by rfl, rfl⟩) (⟨k3, k4, k5⟩) ?_
                 simp only [Act.put, List.setIfInBounds_toArray, List.set_cons_zero, List.set_cons_succ])
          iterate 1
            first
              | (refine mv_take ?_ (Or.inl ⟨by rfl, ?_⟩) (⟨k3, k4, k5⟩) ?_
                 rotate_left 1
                 · intro u hu
                   (try dsimp only at hu)
                   go_simp
                   try with_reducible rfl
                 simp only [Act.put, List.setIfInBounds_toArray, List.set_cons_zero, List.set_cons_succ])
              | (refine mv_take _ (Or.inr ⟨by rfl, rfl⟩) (⟨k3, k4, k5⟩) ?_
                 simp only [Act.put, List.setIfInBounds_toArray, List.set_cons_zero, List.set_cons_succ])
          iterate 3
            first
              | (refine mv_free ?_ (Or.inl ⟨by rfl, ?_⟩) (⟨k3, k4, k5⟩) ?_
                 rotate_left 1
                 · intro u
                   go_simp
                   try simp only [d1]
                   try simp only [d2]
                   try simp only [d3]
                   try with_reducible rfl
                 simp only [Act.put, List.setIfInBounds_toArray, List.set_cons_zero, List.set_cons_succ])
              | (refine mv_free _ (Or.inr ⟨by rfl, rfl⟩) (⟨k3, k4, k5⟩) ?_
                 simp only [Act.put, List.setIfInBounds_toArray, List.set_cons_zero, List.set_cons_succ])
          refine mv_done ?_
          go_wp2_with fail
          refine region_moves (fun u => u.cell? ⟨b, off + 1, none⟩ = some (.int .u8 x1) ∧ u.cell? ⟨b, off + 2, none⟩ = some (.int .u8 x2)) [(11, [(10, 11), (0, 11), (1, 11), (2, 11), (3, 11), (4, 11), (5, 11), (6, 11), (7, 11), (8, 11), (9, 11)])] [(.free, 0), (.free, 1), (.take, 2), (.free, 3), (.free, 4), (.free, 5), (.take, 6), (.free, 7), (.free, 8), (.free, 9), (.free, 10), (.late, 11), (.free, 12)] _ (by kernel_rfl) (by kernel_rfl) (by kernel_rfl) (by kernel_rfl) (by decide) rfl (fun _ _ _ _ _ h => h) ?_
          simp only [List.filterMap_cons, List.filterMap_nil, List.getElem?_toArray, List.getElem?_cons_zero, List.getElem?_cons_succ, Option.map_some]
          iterate 2
            first
              | (refine mv_free ?_ (Or.inl ⟨by rfl, ?_⟩) (⟨k1, k2⟩) ?_
                 rotate_left 1
                 · intro u
                   go_simp
                   try simp only [d1]
                   try simp only [d2]
                   try simp only [d3]
                   try with_reducible rfl
                 simp only [Act.put, List.setIfInBounds_toArray, List.set_cons_zero, List.set_cons_succ])
              | (refine mv_free _ (Or.inr ⟨by rfl, rfl⟩) (⟨k1, k2⟩) ?_
                 simp only [Act.put, List.setIfInBounds_toArray, List.set_cons_zero, List.set_cons_succ])
          iterate 1
            first
              | (refine mv_take ?_ (Or.inl ⟨by rfl, ?_⟩) (⟨k1, k2⟩) ?_
                 rotate_left 1
                 · intro u hu
                   (try dsimp only at hu)
                   go_simp
                   try with_reducible rfl
                 simp only [Act.put, List.setIfInBounds_toArray, List.set_cons_zero, List.set_cons_succ])
              | (refine mv_take _ (Or.inr ⟨by rfl, rfl⟩) (⟨k1, k2⟩) ?_
                 simp only [Act.put, List.setIfInBounds_toArray, List.set_cons_zero, List.set_cons_succ])
          iterate 3
            first
              | (refine mv_free ?_ (Or.inl ⟨by rfl, ?_⟩) (⟨k1, k2⟩) ?_
                 rotate_left 1
                 · intro u
                   go_simp
                   try simp only [d1]
                   try simp only [d2]
                   try simp only [d3]
                   try with_reducible rfl
                 simp only [Act.put, List.setIfInBounds_toArray, List.set_cons_zero, List.set_cons_succ])
              | (refine mv_free _ (Or.inr ⟨by rfl, rfl⟩) (⟨k1, k2⟩) ?_
                 simp only [Act.put, List.setIfInBounds_toArray, List.set_cons_zero, List.set_cons_succ])
          iterate 1
            first
              | (refine mv_take ?_ (Or.inl ⟨by rfl, ?_⟩) (⟨k1, k2⟩) ?_
                 rotate_left 1
                 · intro u hu
                   (try dsimp only at hu)
                   go_simp
                   try with_reducible rfl
                 simp only [Act.put, List.setIfInBounds_toArray, List.set_cons_zero, List.set_cons_succ])
              | (refine mv_take _ (Or.inr ⟨by rfl, rfl⟩) (⟨k1, k2⟩) ?_
                 simp only [Act.put, List.setIfInBounds_toArray, List.set_cons_zero, List.set_cons_succ])
          iterate 4
            first
              | (refine mv_free ?_ (Or.inl ⟨by rfl, ?_⟩) (⟨k1, k2⟩) ?_
                 rotate_left 1
                 · intro u
                   go_simp
                   try simp only [d1]
                   try simp only [d2]
                   try simp only [d3]
                   try with_reducible rfl
                 simp only [Act.put, List.setIfInBounds_toArray, List.set_cons_zero, List.set_cons_succ])
              | (refine mv_free _ (Or.inr ⟨by rfl, rfl⟩) (⟨k1, k2⟩) ?_
                 simp only [Act.put, List.setIfInBounds_toArray, List.set_cons_zero, List.set_cons_succ])
          obtain ⟨q0, q1, q2, q3, p0, p1, p2, p3⟩ := hN.out
          refine mv_late (fun K hK => ?_)
          go_simp
          refine hK.out (fun _ => True) _ _ ?_
          clear hK K
          iterate 1
            first
              | (refine mv_free ?_ (Or.inl ⟨by rfl, ?_⟩) (trivial) ?_
                 rotate_left 1
                 · intro u
                   go_simp
                   try simp only [d1]
                   try simp only [d2]
                   try simp only [d3]
                   try with_reducible rfl
                 simp only [Act.put, List.setIfInBounds_toArray, List.set_cons_zero, List.set_cons_succ])
              | (refine mv_free _ (Or.inr ⟨by rfl, rfl⟩) (trivial) ?_
                 simp only [Act.put, List.setIfInBounds_toArray, List.set_cons_zero, List.set_cons_succ])
          refine mv_done ?_
          clear q0 q1 q2 q3 p0 p1 p2 p3 k0 k1 k2 k3 k4 k5 k6
          obtain ⟨u, eu, z0, z1, z2, z3, hb9⟩ := hN.out.laid x1 x2 v xx
          rw [← eu]
          replace eu := Lib.hid eu
          have hb := Lib.hid (show Below w.heap.size w u.drew.drew from (hb0.out.trans hb9).drew.drew)
          clear hb9
          go_wp2
          refine bodyPost_ret (v := .tuple #[.agg #[.int .i64 x1, .int .i64 x2, .int .i64 v, .int .i64 xx], .int .i64 0]) (by simp [results, Try.results29, go_sem, z0, z1, z2, z3]) rfl ⟨rfl, hb.out⟩
        · go_enter Try.func29, Try.ntmps29
          go_upto_region 1 with (fail)
          rw [← eV.out]
          go_wp2_with fail
          refine (SM.out _ hb0.out).mono ?_
          rintro e w1 ⟨rfl, rfl⟩
          go_wp2_with fail
          refine region_moves (fun u => u.cell? ⟨b, off + 3, none⟩ = some (.int .u8 x3) ∧ u.cell? ⟨b, off + 4, none⟩ = some (.int .u8 x4) ∧ u.cell? ⟨b, off + 5, none⟩ = some (.int .u8 x5)) [] [(.free, 0), (.free, 1), (.take, 2), (.free, 3), (.free, 4), (.free, 5), (.free, 6), (.take, 7), (.free, 8), (.free, 9), (.free, 10), (.free, 11), (.free, 12), (.take, 13), (.free, 14), (.free, 15), (.free, 16)] _ (by kernel_rfl) (by kernel_rfl) (by kernel_rfl) (by kernel_rfl) (by decide) rfl (fun _ _ _ _ _ h => h) ?_
          simp only [List.filterMap_cons, List.filterMap_nil, List.getElem?_toArray, List.getElem?_cons_zero, List.getElem?_cons_succ, Option.map_some]
          iterate 2
            first
              | (refine mv_free ?_ (Or.inl ⟨by rfl, ?_⟩) (⟨k3, k4, k5⟩) ?_
                 rotate_left 1
                 · intro u
                   go_simp
                   try simp only [d1]
                   try simp only [d2]
                   try simp only [d3]
                   try with_reducible rfl
                 simp only [Act.put, List.setIfInBounds_toArray, List.set_cons_zero, List.set_cons_succ])
              | (refine mv_free _ (Or.inr ⟨by rfl, rfl⟩) (⟨k3, k4, k5⟩) ?_
                 simp only [Act.put, List.setIfInBounds_toArray, List.set_cons_zero, List.set_cons_succ])
          iterate 1
            first
              | (refine mv_take ?_ (Or.inl ⟨by rfl, ?_⟩) (⟨k3, k4, k5⟩) ?_
                 rotate_left 1
                 · intro u hu
                   (try dsimp only at hu)
                   go_simp
                   try with_reducible rfl
                 simp only [Act.put, List.setIfInBounds_toArray, List.set_cons_zero, List.set_cons_succ])
              | (refine mv_take _ (Or.inr ⟨by rfl, rfl⟩) (⟨k3, k4, k5⟩) ?_
                 simp only [Act.put, List.setIfInBounds_toArray, List.set_cons_zero, List.set_cons_succ])
          iterate 4
            first
              | (refine mv_free ?_ (Or.inl ⟨by rfl, ?_⟩) (⟨k3, k4, k5⟩) ?_
                 rotate_left 1
                 · intro u
                   go_simp
                   try simp only [d1]
                   try simp only [d2]
                   try simp only [d3]
                   try with_reducible rfl
                 simp only [Act.put, List.setIfInBounds_toArray, List.set_cons_zero, List.set_cons_succ])
              | (refine mv_free _ (Or.inr ⟨by rfl, rfl⟩) (⟨k3, k4, k5⟩) ?_
                 simp only [Act.put, List.setIfInBounds_toArray, List.set_cons_zero, List.set_cons_succ])
          iterate 1
            first
              | (refine mv_take ?_ (Or.inl ⟨by rfl, ?_⟩) (⟨k3, k4, k5⟩) ?_
                 rotate_left 1
                 · intro u hu
                   (try dsimp only at hu)
                   go_simp
                   try with_reducible rfl
                 simp only [Act.put, List.setIfInBounds_toArray, List.set_cons_zero, List.set_cons_succ])
              | (refine mv_take _ (Or.inr ⟨by rfl, rfl⟩) (⟨k3, k4, k5⟩) ?_
                 simp only [Act.put, List.setIfInBounds_toArray, List.set_cons_zero, List.set_cons_succ])
          iterate 5
            first
              | (refine mv_free ?_ (Or.inl ⟨by rfl, ?_⟩) (⟨k3, k4, k5⟩) ?_
                 rotate_left 1
                 · intro u
                   go_simp
                   try simp only [d1]
                   try simp only [d2]
                   try simp only [d3]
                   try with_reducible rfl
                 simp only [Act.put, List.setIfInBounds_toArray, List.set_cons_zero, List.set_cons_succ])
              | (refine mv_free _ (Or.inr ⟨by rfl, rfl⟩) (⟨k3, k4, k5⟩) ?_
                 simp only [Act.put, List.setIfInBounds_toArray, List.set_cons_zero, List.set_cons_succ])
          iterate 1
            first
              | (refine mv_take ?_ (Or.inl ⟨by rfl, ?_⟩) (⟨k3, k4, k5⟩) ?_
                 rotate_left 1
                 · intro u hu
                   (try dsimp only at hu)
                   go_simp
                   try with_reducible rfl
                 simp only [Act.put, List.setIfInBounds_toArray, List.set_cons_zero, List.set_cons_succ])
              | (refine mv_take _ (Or.inr ⟨by rfl, rfl⟩) (⟨k3, k4, k5⟩) ?_
                 simp only [Act.put, List.setIfInBounds_toArray, List.set_cons_zero, List.set_cons_succ])
          iterate 3
            first
              | (refine mv_free ?_ (Or.inl ⟨by rfl, ?_⟩) (⟨k3, k4, k5⟩) ?_
                 rotate_left 1
                 · intro u
                   go_simp
                   try simp only [d1]
                   try simp only [d2]
                   try simp only [d3]
                   try with_reducible rfl
                 simp only [Act.put, List.setIfInBounds_toArray, List.set_cons_zero, List.set_cons_succ])
              | (refine mv_free _ (Or.inr ⟨by rfl, rfl⟩) (⟨k3, k4, k5⟩) ?_
                 simp only [Act.put, List.setIfInBounds_toArray, List.set_cons_zero, List.set_cons_succ])
          refine mv_done ?_
          go_wp2_with fail
          refine region_moves (fun u => u.cell? ⟨b, off + 1, none⟩ = some (.int .u8 x1) ∧ u.cell? ⟨b, off + 2, none⟩ = some (.int .u8 x2)) [(11, [(10, 11), (0, 11), (1, 11), (2, 11), (3, 11), (4, 11), (5, 11), (6, 11), (7, 11), (8, 11), (9, 11)])] [(.free, 0), (.free, 1), (.take, 2), (.free, 3), (.free, 4), (.free, 5), (.take, 6), (.free, 7), (.free, 8), (.free, 9), (.free, 10), (.late, 11), (.free, 12)] _ (by kernel_rfl) (by kernel_rfl) (by kernel_rfl) (by kernel_rfl) (by decide) rfl (fun _ _ _ _ _ h => h) ?_
          simp only [List.filterMap_cons, List.filterMap_nil, List.getElem?_toArray, List.getElem?_cons_zero, List.getElem?_cons_succ, Option.map_some]
          iterate 2
            first
              | (refine mv_free ?_ (Or.inl ⟨by rfl, ?_⟩) (⟨k1, k2⟩) ?_
                 rotate_left 1
                 · intro u
                   go_simp
                   try simp only [d1]
                   try simp only [d2]
                   try simp only [d3]
                   try with_reducible rfl
                 simp only [Act.put, List.setIfInBounds_toArray, List.set_cons_zero, List.set_cons_succ])
              | (refine mv_free _ (Or.inr ⟨by rfl, rfl⟩) (⟨k1, k2⟩) ?_
                 simp only [Act.put, List.setIfInBounds_toArray, List.set_cons_zero, List.set_cons_succ])
          iterate 1
            first
              | (refine mv_take ?_ (Or.inl ⟨by rfl, ?_⟩) (⟨k1, k2⟩) ?_
                 rotate_left 1
                 · intro u hu
                   (try dsimp only at hu)
                   go_simp
                   try with_reducible rfl
                 simp only [Act.put, List.setIfInBounds_toArray, List.set_cons_zero, List.set_cons_succ])
              | (refine mv_take _ (Or.inr ⟨by rfl, rfl⟩) (⟨k1, k2⟩) ?_
                 simp only [Act.put, List.setIfInBounds_toArray, List.set_cons_zero, List.set_cons_succ])
          iterate 3
            first
              | (refine mv_free ?_ (Or.inl ⟨by rfl, ?_⟩) (⟨k1, k2⟩) ?_
                 rotate_left 1
                 · intro u
                   go_simp
                   try simp only [d1]
                   try simp only [d2]
                   try simp only [d3]
                   try with_reducible rfl
                 simp only [Act.put, List.setIfInBounds_toArray, List.set_cons_zero, List.set_cons_succ])
              | (refine mv_free _ (Or.inr ⟨by rfl, rfl⟩) (⟨k1, k2⟩) ?_
                 simp only [Act.put, List.setIfInBounds_toArray, List.set_cons_zero, List.set_cons_succ])
          iterate 1
            first
              | (refine mv_take ?_ (Or.inl ⟨by rfl, ?_⟩) (⟨k1, k2⟩) ?_
                 rotate_left 1
                 · intro u hu
                   (try dsimp only at hu)
                   go_simp
                   try with_reducible rfl
                 simp only [Act.put, List.setIfInBounds_toArray, List.set_cons_zero, List.set_cons_succ])
              | (refine mv_take _ (Or.inr ⟨by rfl, rfl⟩) (⟨k1, k2⟩) ?_
                 simp only [Act.put, List.setIfInBounds_toArray, List.set_cons_zero, List.set_cons_succ])
          iterate 4
            first
              | (refine mv_free ?_ (Or.inl ⟨by rfl, ?_⟩) (⟨k1, k2⟩) ?_
                 rotate_left 1
                 · intro u
                   go_simp
                   try simp only [d1]
                   try simp only [d2]
                   try simp only [d3]
                   try with_reducible rfl
                 simp only [Act.put, List.setIfInBounds_toArray, List.set_cons_zero, List.set_cons_succ])
              | (refine mv_free _ (Or.inr ⟨by rfl, rfl⟩) (⟨k1, k2⟩) ?_
                 simp only [Act.put, List.setIfInBounds_toArray, List.set_cons_zero, List.set_cons_succ])
          obtain ⟨q0, q1, q2, q3, p0, p1, p2, p3⟩ := hN.out
          refine mv_late (fun K hK => ?_)
          go_simp
          refine hK.out (fun _ => True) _ _ ?_
          clear hK K
          iterate 1
            first
              | (refine mv_free ?_ (Or.inl ⟨by rfl, ?_⟩) (trivial) ?_
                 rotate_left 1
                 · intro u
                   go_simp
                   try simp only [d1]
                   try simp only [d2]
                   try simp only [d3]
                   try with_reducible rfl
                 simp only [Act.put, List.setIfInBounds_toArray, List.set_cons_zero, List.set_cons_succ])
              | (refine mv_free _ (Or.inr ⟨by rfl, rfl⟩) (trivial) ?_
                 simp only [Act.put, List.setIfInBounds_toArray, List.set_cons_zero, List.set_cons_succ])
          refine mv_done ?_
          clear q0 q1 q2 q3 p0 p1 p2 p3 k0 k1 k2 k3 k4 k5 k6
          obtain ⟨u, eu, z0, z1, z2, z3, hb9⟩ := hN.out.laid x1 x2 v x6
          rw [← eu]
          replace eu := Lib.hid eu
          have hb := Lib.hid (show Below w.heap.size w u.drew.drew from (hb0.out.trans hb9).drew.drew)
          clear hb9
          go_wp2
          refine bodyPost_ret (v := .tuple #[.agg #[.int .i64 x1, .int .i64 x2, .int .i64 v, .int .i64 x6], .int .i64 0]) (by simp [results, Try.results29, go_sem, z0, z1, z2, z3]) rfl ⟨rfl, hb.out⟩
      · obtain ⟨e0, e1, e2, e3, e4⟩ := tk4 h8 h0 ht
        rw [e0, e1, e2, e3, e4]
        generalize tot l = y at *
        have c0' := (bc (show Below w.heap.size w (w.alloc (.cells #[.int .i64 0, .int .i64 0, .int .i64 0, .int .i64 0] 45)) from (by repeat (first | exact Below.refl _ _ | assumption | apply Below.drew | apply below_drewN | (refine Below.alloc ?_ (by first | exact Nat.le_refl _ | omega | (simp <;> omega)) _) | (refine Below.setCell ?_ (by first | exact Nat.le_refl _ | omega | (simp <;> omega)) _)))) hlt).trans c0
        have d1 : (y != 0) = true := by simp [ht]
        clear e0 e1 e2 e3 e4 hB b0 b1 b2 b3 b4 b5 b6 tb h0 h8 hL hL' hc ht c0 c1 c2 c3 c4 c5 c6
        go_enter Try.func29, Try.ntmps29
        go_wp2_with fail
        refine (SM.out _ (by repeat (first | exact Below.refl _ _ | assumption | apply Below.drew | apply below_drewN | (refine Below.alloc ?_ (by first | exact Nat.le_refl _ | omega | (simp <;> omega)) _) | (refine Below.setCell ?_ (by first | exact Nat.le_refl _ | omega | (simp <;> omega)) _)))).mono ?_
        rintro e w1 ⟨rfl, rfl⟩
        go_wp2
        exact bodyPost_ret (v := .tuple #[.agg #[.int .i64 0, .int .i64 0, .int .i64 0, .int .i64 0], .int .i64 4]) (by simp [results, Try.results29, go_sem]) rfl ⟨rfl, (by repeat (first | exact Below.refl _ _ | assumption | apply Below.drew | apply below_drewN | (refine Below.alloc ?_ (by first | exact Nat.le_refl _ | omega | (simp <;> omega)) _) | (refine Below.setCell ?_ (by first | exact Nat.le_refl _ | omega | (simp <;> omega)) _)))⟩
    · obtain ⟨e0, e1, e2, e3, e4⟩ := tk3 h8 h0
      rw [e0, e1, e2, e3, e4, h8]
      generalize l.getD 0 0 = x0 at *
      have d1 : (x0 != 165) = true := by simp [h0]
      have c0' := (bc (show Below w.heap.size w (w.alloc (.cells #[.int .i64 0, .int .i64 0, .int .i64 0, .int .i64 0] 45)) from (by repeat (first | exact Below.refl _ _ | assumption | apply Below.drew | apply below_drewN | (refine Below.alloc ?_ (by first | exact Nat.le_refl _ | omega | (simp <;> omega)) _) | (refine Below.setCell ?_ (by first | exact Nat.le_refl _ | omega | (simp <;> omega)) _)))) hlt).trans c0
      clear e0 e1 e2 e3 e4 hB b0 b1 b2 b3 b4 b5 b6 h8 hL hL' hc c0 c1 c2 c3 c4 c5 c6
      go_enter Try.func29, Try.ntmps29
      go_wp2
      exact bodyPost_ret (v := .tuple #[.agg #[.int .i64 0, .int .i64 0, .int .i64 0, .int .i64 0], .int .i64 3]) (by simp [results, Try.results29, go_sem]) rfl ⟨rfl, (by repeat (first | exact Below.refl _ _ | assumption | apply Below.drew | apply below_drewN | (refine Below.alloc ?_ (by first | exact Nat.le_refl _ | omega | (simp <;> omega)) _) | (refine Below.setCell ?_ (by first | exact Nat.le_refl _ | omega | (simp <;> omega)) _)))⟩
  · obtain ⟨e0, e1, e2, e3, e4⟩ := tk12 h8
    rw [e0, e1, e2, e3, e4]
    have d1 : ((l.length : Int) != 8) = true := by simp; omega
    clear e0 e1 e2 e3 e4 hB hL hr
    go_enter Try.func29, Try.ntmps29
    go_wp2
    exact bodyPost_ret (v := .tuple #[.agg #[.int .i64 0, .int .i64 0, .int .i64 0, .int .i64 0], .int .i64 12]) (by simp [results, Try.results29, go_sem]) rfl ⟨rfl, (by repeat (first | exact Below.refl _ _ | assumption | apply Below.drew | apply below_drewN | (refine Below.alloc ?_ (by first | exact Nat.le_refl _ | omega | (simp <;> omega)) _) | (refine Below.setCell ?_ (by first | exact Nat.le_refl _ | omega | (simp <;> omega)) _)))⟩
end Go.Proofs.Ytbbmkmkalghaeaa
