/- The document's lag; the chapter's example; the laws LagSteps and LagHolds, walked. -/
import Derived.Test.YtiibgblpbjdpaaaLag1
namespace Go.Proofs.Ytiibgblpbjdpaaa
open Go.ChangeShapes Go.WideShapes Go.ChangeAt Go.RowKit
set_option linter.unusedVariables false
set_option linter.unusedSimpArgs false

theorem lgV_between (sh y x : Int) (d : -1099511627774 ≤ x - y ∧ x - y ≤ 1099511627774) : (y ≤ x → y ≤ lgV sh y x ∧ lgV sh y x ≤ x) ∧ (x ≤ y → x ≤ lgV sh y x ∧ lgV sh y x ≤ y) := by
  have q := lgQ_bd sh (x - y) d
  unfold lgV
  omega
theorem lgV_bd {sh y x : Int} (y1 : -549755813887 ≤ y) (y2 : y ≤ 549755813887) (x1 : -549755813887 ≤ x) (x2 : x ≤ 549755813887) : -549755813887 ≤ lgV sh y x ∧ lgV sh y x ≤ 549755813887 := by
  have := lgV_between sh y x (by omega)
  omega
theorem lgV_self (sh y : Int) : lgV sh y y = y := by simp [lgV]

set_option maxRecDepth 100000 in
set_option maxHeartbeats 4000000 in
theorem rlgstep_any (b : Nat) {sh y : Int} {kn : Bool} (x0 : Int) (w : World) (h : Held b (lgC sh y kn) w) (h0 : 0 ≤ sh) (h1 : sh ≤ 16) (y1 : -549755813887 ≤ y) (y2 : y ≤ 549755813887) :
    Calls Try.prog 32 #[.pointer (some ⟨b, 0, none⟩), .int .i64 x0] w fun e w' => e = .returned (.int .i64 (lgV sh (if kn then y else clq x0) (clq x0))) ∧ Held b (lgC sh (lgV sh (if kn then y else clq x0) (clq x0)) true) w' ∧ Beside b w w' := by
  have CL := Lib.hid (fun u => r16clip_any x0 u)
  have xb := clq_bd x0
  generalize clq x0 = x at *
  obtain ⟨c0, f0⟩ := h.one 0 rfl
  obtain ⟨c1, f1⟩ := h.one 1 rfl
  obtain ⟨c2, f2⟩ := h.one 2 rfl
  have hpow := Lib.hid (show ∀ k : Nat, k < 17 → (1 : Int) ≤ 2 ^ k ∧ (2 : Int) ^ k ≤ 65536 by decide)
  cases kn <;> simp only [if_true, if_false, Bool.false_eq_true]
  · rw [lgV_self]
    go_enter Try.func32, Try.ntmps32
    go_wp2_with ((go_at_call 55; (with_reducible refine (CL.out _).mono ?_); rintro e w' ⟨rfl, rfl⟩))
    go_loop [5, 6] (fun s i => ∃ k : Nat, (k : Int) ≤ sh ∧ i = .int .i64 k ∧ ∃ p : Int, Hid (p = 2 ^ k) ∧ 1 ≤ p ∧ p ≤ 65536 ∧ s = .int .i64 p) (fun _ i => sh.toNat - (intOf i).toNat)
    case atStart => exact ⟨0, by omega, rfl, 1, Lib.hid (by simp), by omega, by omega, rfl⟩
    case round =>
      obtain ⟨k, hk, rfl, p, hp, p1, p2, rfl⟩ := hrel
      by_cases hlt : (k : Int) < sh
      · have hq := hpow.out (k + 1) (by omega)
        rw [Int.pow_succ, ← hp.out] at hq
        have HE : Hid (p * 2 = 2 ^ (k + 1)) := Lib.hid (by rw [hp.out, Int.pow_succ])
        go_wp2
        go_round
        case rel => exact ⟨k + 1, by omega, by go_num, p * 2, HE, by omega, by omega, rfl⟩
        case measure => simp [intOf]; omega
      · obtain rfl : sh = (k : Int) := by omega
        go_wp2
        go_ret
        exact ⟨rfl, ((((HB.start h).set 1 (.int .i64 x) (by simp [lgC])).set 2 (.bool true) (by simp [lgC]))).fin rfl rfl rfl rfl⟩
  · have BV := lgV_between sh y x (by omega)
    have BV := Lib.hid BV
    go_enter Try.func32, Try.ntmps32
    go_wp2_with ((go_at_call 55; (with_reducible refine (CL.out _).mono ?_); rintro e w' ⟨rfl, rfl⟩))
    go_loop [5, 6] (fun s i => ∃ k : Nat, (k : Int) ≤ sh ∧ i = .int .i64 k ∧ ∃ p : Int, Hid (p = 2 ^ k) ∧ 1 ≤ p ∧ p ≤ 65536 ∧ s = .int .i64 p) (fun _ i => sh.toNat - (intOf i).toNat)
    case atStart => exact ⟨0, by omega, rfl, 1, Lib.hid (by simp), by omega, by omega, rfl⟩
    case round =>
      obtain ⟨k, hk, rfl, p, hp, p1, p2, rfl⟩ := hrel
      by_cases hlt : (k : Int) < sh
      · have hq := hpow.out (k + 1) (by omega)
        rw [Int.pow_succ, ← hp.out] at hq
        have HE : Hid (p * 2 = 2 ^ (k + 1)) := Lib.hid (by rw [hp.out, Int.pow_succ])
        go_wp2
        go_round
        case rel => exact ⟨k + 1, by omega, by go_num, p * 2, HE, by omega, by omega, rfl⟩
        case measure => simp [intOf]; omega
      · obtain rfl : sh = (k : Int) := by omega
        have FL := Lib.hid (fun a h1 h2 u => floor01_any a p u (by omega) h1 h2)
        have HV : lgV (k : Int) y x = y + (x - y) / p := by rw [hp.out]; rfl
        have bv := BV.out
        rw [HV] at bv
        have HV := Lib.hid HV
        have hw1 : IntKind.i64.wrap (x - y) = x - y := IntWalk.i64_in _ ⟨by omega, by omega⟩
        have hw2 : IntKind.i64.wrap (y + (x - y) / p) = y + (x - y) / p := IntWalk.i64_in _ ⟨by omega, by omega⟩
        go_wp2_with fail
        refine region_still [(16, [(15, 16), (13, 16), (12, 16), (0, 16), (1, 16), (2, 16), (3, 16), (4, 16), (5, 16), (6, 16), (7, 16), (8, 16), (9, 16), (10, 16), (11, 16), (14, 15)])] [(.free, 0), (.free, 1), (.free, 2), (.free, 3), (.take, 4), (.free, 5), (.free, 6), (.free, 7), (.free, 8), (.take, 9), (.free, 10), (.free, 11), (.step, 12), (.free, 13), (.free, 14), (.free, 15), (.late, 16)] _ (by kernel_rfl) (by kernel_rfl) (by kernel_rfl) (by kernel_rfl) (by decide) rfl (fun _ _ _ _ _ h => h) ?_
        simp only [List.filterMap_cons, List.filterMap_nil, List.getElem?_toArray, List.getElem?_cons_zero, List.getElem?_cons_succ, Option.map_some]
        iterate 4
          first
            | (refine mv_free ?_ (Or.inl ⟨by rfl, ?_⟩) (rfl) ?_
               rotate_left 1
               · intro u
                 go_simp
                 try with_reducible rfl
               simp only [Act.put, List.setIfInBounds_toArray, List.set_cons_zero, List.set_cons_succ])
            | (refine mv_free _ (Or.inr ⟨by rfl, rfl⟩) (rfl) ?_
               simp only [Act.put, List.setIfInBounds_toArray, List.set_cons_zero, List.set_cons_succ])
        iterate 1
          first
            | (refine mv_take ?_ (Or.inl ⟨by rfl, ?_⟩) (rfl) ?_
               rotate_left 1
               · intro u hu
                 (try dsimp only at hu)
                 go_simp
                 try with_reducible rfl
               simp only [Act.put, List.setIfInBounds_toArray, List.set_cons_zero, List.set_cons_succ])
            | (refine mv_take _ (Or.inr ⟨by rfl, rfl⟩) (rfl) ?_
               simp only [Act.put, List.setIfInBounds_toArray, List.set_cons_zero, List.set_cons_succ])
        iterate 4
          first
            | (refine mv_free ?_ (Or.inl ⟨by rfl, ?_⟩) (rfl) ?_
               rotate_left 1
               · intro u
                 go_simp
                 try with_reducible rfl
               simp only [Act.put, List.setIfInBounds_toArray, List.set_cons_zero, List.set_cons_succ])
            | (refine mv_free _ (Or.inr ⟨by rfl, rfl⟩) (rfl) ?_
               simp only [Act.put, List.setIfInBounds_toArray, List.set_cons_zero, List.set_cons_succ])
        iterate 1
          first
            | (refine mv_take ?_ (Or.inl ⟨by rfl, ?_⟩) (rfl) ?_
               rotate_left 1
               · intro u hu
                 (try dsimp only at hu)
                 go_simp
                 try with_reducible rfl
               simp only [Act.put, List.setIfInBounds_toArray, List.set_cons_zero, List.set_cons_succ])
            | (refine mv_take _ (Or.inr ⟨by rfl, rfl⟩) (rfl) ?_
               simp only [Act.put, List.setIfInBounds_toArray, List.set_cons_zero, List.set_cons_succ])
        iterate 2
          first
            | (refine mv_free ?_ (Or.inl ⟨by rfl, ?_⟩) (rfl) ?_
               rotate_left 1
               · intro u
                 go_simp
                 try with_reducible rfl
               simp only [Act.put, List.setIfInBounds_toArray, List.set_cons_zero, List.set_cons_succ])
            | (refine mv_free _ (Or.inr ⟨by rfl, rfl⟩) (rfl) ?_
               simp only [Act.put, List.setIfInBounds_toArray, List.set_cons_zero, List.set_cons_succ])
        refine mv_step (fun K hK => ?_)
        go_simp
        refine (FL.out _ (by omega) (by omega) _).mono ?_
        rintro e w' ⟨rfl, rfl⟩
        go_wp2_with fail
        refine hK.out _ _ _ (fun u hu => hu) (rfl) ?_
        clear hK K
        iterate 3
          first
            | (refine mv_free ?_ (Or.inl ⟨by rfl, ?_⟩) (rfl) ?_
               rotate_left 1
               · intro u
                 go_simp
                 try with_reducible rfl
               simp only [Act.put, List.setIfInBounds_toArray, List.set_cons_zero, List.set_cons_succ])
            | (refine mv_free _ (Or.inr ⟨by rfl, rfl⟩) (rfl) ?_
               simp only [Act.put, List.setIfInBounds_toArray, List.set_cons_zero, List.set_cons_succ])
        refine mv_late (fun K hK => ?_)
        go_simp
        refine hK.out (fun _ => True) _ _ ?_
        clear hK K
        refine mv_done ?_
        go_wp2
        go_ret
        rw [HV.out]
        exact ⟨rfl, ((HB.start h).set 1 (.int .i64 (y + (x - y) / p)) (by simp [lgC])).fin rfl rfl rfl rfl⟩
end Go.Proofs.Ytiibgblpbjdpaaa
