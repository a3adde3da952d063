/- The chapter's example; the laws LagSteps and LagHolds, walked. -/
import Derived.Test.YtkchacjlddddjaaLag2
namespace Go.Proofs.Ytkchacjlddddjaa
open Go.ChangeShapes Go.WideShapes Go.ChangeAt Go.RowKit
set_option linter.unusedVariables false
set_option linter.unusedSimpArgs false

theorem lgmid_any (a b c : Int) (w : World) (m : Int) (h : max (min a b) (min (max a b) c) = m) : Calls Try.prog 54 #[.int .i64 a, .int .i64 b, .int .i64 c] w fun e w' => e = .returned (.int .i64 m) ∧ w = w' := by
  subst h
  go_enter Try.func54, Try.ntmps54
  go_wp2
  all_goals
    go_ret
    exact ⟨ret_int (by omega), rfl⟩
theorem lgC_eq {b : Nat} {sh y y' : Int} {kn : Bool} {w : World} (h : Held b (lgC sh y kn) w) (e : y = y') : Held b (lgC sh y' kn) w := e ▸ h

set_option maxHeartbeats 1000000 in
theorem lives16 (w : World) : Calls Try.prog 25 #[] w fun e w' => e = .returned (.bool true) ∧ Below w.heap.size w w' := by
  go_enter Try.func25, Try.ntmps25
  go_wp2_with fail
  refine (lgnew_ok 1 _ (by omega) (by omega)).mono ?_
  rintro e w1 ⟨b, hb, rfl, h1, hb1⟩
  go_wp2_with fail
  refine (lgstep_any b 0 _ h1 (by omega) (by omega) (by omega) (by omega)).mono ?_
  rw [show lgV 1 (if false = true then 0 else clq 0) (clq 0) = 0 by decide]
  rintro e w2 ⟨rfl, h2, o2⟩
  have hb2 := Below.beside hb1 o2 hb
  go_wp2_with fail
  refine (lgstep_any b 5 _ h2 (by omega) (by omega) (by omega) (by omega)).mono ?_
  rw [show lgV 1 (if true = true then 0 else clq 5) (clq 5) = 2 by decide]
  rintro e w3 ⟨rfl, h3, o3⟩
  have hb3 := Below.beside hb2 o3 hb
  go_wp2_with (go_at_call 54; refine (lgmid_any 3 1 2 _ 2 (by omega)).mono ?_; rintro e w1 ⟨rfl, rfl⟩)
  go_ret
  exact ⟨rfl, hb3⟩

theorem lgV_kbd (sh : Int) (kn : Bool) {y x : Int} (y1 : -549755813887 ≤ y) (y2 : y ≤ 549755813887) (x1 : -549755813887 ≤ x) (x2 : x ≤ 549755813887) : -549755813887 ≤ lgV sh (if kn then y else x) x ∧ lgV sh (if kn then y else x) x ≤ 549755813887 := by
  cases kn
  · simp only [Bool.false_eq_true, if_false]
    exact lgV_bd x1 x2 x1 x2
  · simp only [if_true]
    exact lgV_bd y1 y2 x1 x2

set_option maxRecDepth 100000 in
set_option maxHeartbeats 4000000 in
theorem law_LagSteps (sh : Int) (a : Option Addr) (cap : Nat) (l : List Int) (w : World) (hrow : RowIs .i64 w a l) (hl : l.length ≤ maxLen) :
    Calls Try.prog 4 #[.int .i64 sh, .slice a l.length cap] w fun e w' => e = .returned (.bool true) ∧ Below w.heap.size w w' := by
  unfold maxLen at hl
  by_cases hp : l.length ≤ 100 ∧ 0 ≤ sh ∧ sh ≤ 16
  · obtain ⟨p0, p1, p2⟩ := hp
    go_enter Try.func4, Try.ntmps4
    go_wp2_with fail
    refine (lgnew_ok sh _ p1 p2).mono ?_
    rintro e w1 ⟨b, hb, rfl, h1, hb1⟩
    go_wp2_with fail
    obtain ⟨bm, ebm⟩ : ∃ bm, w1.heap.size = bm := ⟨_, rfl⟩
    have hbm : b ≠ bm := by have := h1.lt; omega
    have hwm : w.heap.size ≤ bm := by have := hb1.size; omega
    rw [ebm]
    go_loopw [8] (fun i u => ∃ (k : Nat) (y : Int) (kn : Bool), k ≤ l.length ∧ i = .int .i64 k ∧ -549755813887 ≤ y ∧ y ≤ 549755813887 ∧ Held b (lgC sh y kn) u ∧ Held bm (lgC sh y kn) u ∧ Below w.heap.size w u) (fun i _ => l.length - (intOf i).toNat)
    case atStart =>
      refine ⟨0, 0, false, Nat.zero_le _, rfl, by omega, by omega, h1.alloc _, ?_, hb1.alloc hb1.size _⟩
      rw [← ebm]
      exact Held.new w1 (lgC sh 0 false) _
    case round =>
      clear h1 hb1
      obtain ⟨k, y, kn, hk, rfl, y1, y2, hh, hm, hbel⟩ := hrel
      by_cases hlt : k < l.length
      · obtain ⟨tb, off, rfl, htb, hc0⟩ := hrow.at hlt
        generalize l.getD k 0 = x at *
        have hcell : ∀ u, Below w.heap.size w u → u.cell? ⟨tb, off + k, none⟩ = some (.int .i64 x) := fun u hu => (bc hu htb).trans hc0
        have hcell := Lib.hid hcell
        clear hc0 hrow
        have ST := Lib.hid (fun u (hu : Held b (lgC sh y kn) u) => lgstep_any b x u hu p1 p2 y1 y2)
        have RT := Lib.hid (fun u (hu : Held bm (lgC sh y kn) u) => rlgstep_any bm x u hu p1 p2 y1 y2)
        have xb := clq_bd x
        have nb := lgV_kbd sh kn y1 y2 xb.1 xb.2
        generalize lgV sh (if kn then y else clq x) (clq x) = n at *
        go_wp2_with fail
        refine (lgval_any b _ hh).mono ?_
        rintro e w2 ⟨rfl, rfl⟩
        have hh2 := hh.drew
        have hm2 := hm.drew
        have hbel2 := hbel.drew
        have hx2 := hcell.out _ hbel2
        clear hh hm hbel
        obtain ⟨c0, f0⟩ := hm2.one 0 rfl
        obtain ⟨c1, f1⟩ := hm2.one 1 rfl
        obtain ⟨c2, f2⟩ := hm2.one 2 rfl
        have c1' := c1
        have c2' := c2
        go_wp2_with fail
        refine region_moves (fun u => u.cell? ⟨bm, 1, none⟩ = some (.int .i64 y) ∧ u.cell? ⟨bm, 2, none⟩ = some (.bool kn) ∧ u.cell? ⟨tb, off + k, none⟩ = some (.int .i64 x)) [(21, [(20, 21), (16, 21), (10, 21), (19, 20), (11, 16), (15, 16), (9, 10), (4, 10), (17, 19), (18, 19), (14, 15), (8, 9), (3, 4), (12, 14), (13, 14), (5, 8), (7, 8), (0, 3), (2, 3), (6, 7), (1, 2)])] [(.take, 0), (.take, 1), (.take, 2), (.take, 3), (.take, 4), (.take, 5), (.take, 6), (.take, 7), (.take, 8), (.take, 9), (.take, 10), (.take, 11), (.take, 12), (.take, 13), (.take, 14), (.take, 15), (.take, 17), (.take, 18), (.take, 19), (.take, 20), (.step, 16), (.late, 21), (.take, 22), (.take, 23)] _ (by kernel_rfl) (by kernel_rfl) (by kernel_rfl) (by kernel_rfl) (by decide) rfl (fun _ _ _ _ _ h => h) ?_
        simp only [List.filterMap_cons, List.filterMap_nil, List.getElem?_toArray, List.getElem?_cons_zero, List.getElem?_cons_succ, Option.map_some]
        iterate 20
          first
            | (refine mv_take ?_ (Or.inl ⟨by rfl, ?_⟩) (⟨c1', c2', hx2⟩) ?_
               rotate_left 1
               · intro u hu
                 (try dsimp only at hu)
                 go_simp
                 try with_reducible rfl
               simp only [Act.put, List.setIfInBounds_toArray, List.set_cons_zero, List.set_cons_succ])
            | (refine mv_take _ (Or.inr ⟨by rfl, rfl⟩) (⟨c1', c2', hx2⟩) ?_
               simp only [Act.put, List.setIfInBounds_toArray, List.set_cons_zero, List.set_cons_succ])
        refine mv_step (fun K hK => ?_)
        go_simp
        refine (ST.out _ hh2.drew).mono ?_
        rintro e w3 ⟨rfl, hh3, ob3⟩
        go_wp2_with fail
        have hb3 := Below.beside (w := w) hbel2.drew ob3 (by omega)
        have hm3 := Held.beside (b := bm) hm2.drew ob3 (by omega)
        have hx3 := hcell.out _ hb3
        clear c0 c1 c2 f0 f1 f2 c1' c2' hx2 hh2 hm2 hbel2
        obtain ⟨c0, f0⟩ := hm3.one 0 rfl
        obtain ⟨c1, f1⟩ := hm3.one 1 rfl
        obtain ⟨c2, f2⟩ := hm3.one 2 rfl
        refine hK.out _ _ _ (fun u hu => hu) (⟨c1, c2, hx3⟩) ?_
        clear hK K
        refine mv_late (fun K hK => ?_)
        go_simp
        refine (RT.out _ hm3).mono ?_
        rintro e w4 ⟨rfl, hm4, ob4⟩
        go_wp2_with fail
        have hb4 := Below.beside (w := w) hb3 ob4 (by omega)
        have hh4 := Held.beside (b := b) hh3 ob4 (by omega)
        clear c0 c1 c2 f0 f1 f2 hx3 hh3 hm3 hb3 ob3 ob4
        refine hK.out (fun _ => True) _ _ ?_
        clear hK K
        iterate 2
          first
            | (refine mv_take ?_ (Or.inl ⟨by rfl, ?_⟩) (trivial) ?_
               rotate_left 1
               · intro u hu
                 (try dsimp only at hu)
                 go_simp
                 try with_reducible rfl
               simp only [Act.put, List.setIfInBounds_toArray, List.set_cons_zero, List.set_cons_succ])
            | (refine mv_take _ (Or.inr ⟨by rfl, rfl⟩) (trivial) ?_
               simp only [Act.put, List.setIfInBounds_toArray, List.set_cons_zero, List.set_cons_succ])
        refine mv_done ?_
        go_wp2
        go_roundw
        case rel => exact ⟨k + 1, n, true, by omega, by go_num, nb.1, nb.2, hh4, hm4, hb4⟩
        case measure => simp [intOf]; omega
      · go_wp2_with fail
        refine (lgreset_any b _ hh).mono ?_
        rintro e w2 ⟨rfl, hh2, ob2⟩
        have hb2 := Below.beside (w := w) hbel ob2 hb
        go_wp2_with fail
        refine (lgval_any b _ hh2).mono ?_
        rintro e w3 ⟨rfl, rfl⟩
        have hb2 := hb2.drew
        go_wp2_with (go_at_call 25; refine (lives16 _).mono ?_; rintro e w1 ⟨rfl, hb5⟩)
        go_ret
        exact ⟨rfl, hb2.trans (hb5.mono hb2.size)⟩
  · go_enter Try.func4, Try.ntmps4
    go_wp2_with (go_at_call 25; refine (lives16 _).mono ?_; rintro e w1 ⟨rfl, hb3⟩)
    all_goals first | (exfalso; omega) | skip
    all_goals
      go_ret
      exact ⟨rfl, hb3⟩
end Go.Proofs.Ytkchacjlddddjaa
