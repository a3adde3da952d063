/- The document's signs: a step. -/
import Derived.Test.YtffhhdjcodapjaaSigns3
import Derived.Test.YtffhhdjcodapjaaReg
import Derived.Test.YtffhhdjcodapjaaHb
import Derived.Deep.Cut
namespace Go.Proofs.Ytffhhdjcodapjaa
open Go.ChangeShapes Go.WideShapes Go.ChangeAt Go.RowKit
set_option linter.unusedVariables false
set_option linter.unusedSimpArgs false

def rsC (ep mv tk fl hi : Int) (an : Bool) (v r st lo : Int) : List Value := [.int .i64 ep, .int .i64 mv, .int .i64 tk, .int .i64 fl, .int .i64 hi, .int .i64 v, .int .i64 r, .bool an, .int .i64 st, .int .i64 lo]

set_option maxHeartbeats 1000000 in
theorem rabs01_any (n : Int) (w : World) (h : -4611686018427387904 ≤ n) : Calls Try.prog 26 #[.int .i64 n] w fun e w' => e = .returned (.int .i64 (if n < 0 then -n else n)) ∧ w = w' := by
  go_enter Try.func26, Try.ntmps26
  go_wp2
  all_goals
    go_ret
    exact ⟨ret_int (by first | rfl | omega), rfl⟩

theorem far_abs (a b : Int) : (if a - b < 0 then -(a - b) else a - b) = far a b := by
  unfold far; split <;> split <;> omega

/-- What both counts come to, and what is told, by the tests. -/
theorem sg_val {ep mv tk fl hi v r st lo x y : Int} {an kk ll : Bool} (hk : sgK ep an v x = kk) (hl : (decide (x < fl) && decide (hi ≤ y)) = ll) :
    sgV ep an v x = (if kk then v else x) ∧ sgA ep an v x r y = (if kk then r else y) ∧ sgS ep an v x st = (if kk then st + 1 else 0) ∧ sgL fl hi x y lo = (if ll then lo + 1 else 0) := by
  unfold sgV sgA sgS sgL
  rw [hk, hl]
  exact ⟨rfl, rfl, rfl, rfl⟩

set_option maxRecDepth 100000 in
set_option maxHeartbeats 8000000 in
theorem rsstep_any (b : Nat) {ep mv tk fl hi : Int} {an : Bool} {v r st lo : Int} (v0 y0 : Int) (w : World) (h : Held b (rsC ep mv tk fl hi an v r st lo) w) (ok : SgOk ep mv tk fl hi) (v1 : -549755813887 ≤ v) (v2 : v ≤ 549755813887) (r1 : -549755813887 ≤ r) (r2 : r ≤ 549755813887) (s0 : 0 ≤ st) (s1 : st < 1000000) (l0 : 0 ≤ lo) (l1 : lo < 1000000) :
    Calls Try.prog 16 #[.pointer (some ⟨b, 0, none⟩), .int .i64 v0, .int .i64 y0] w fun e w' => e = .returned (.int .i64 (sgOut mv tk (sgS ep an v (clq v0) st) (clq y0) (sgA ep an v (clq v0) r (clq y0)) (sgL fl hi (clq v0) (clq y0) lo))) ∧ Held b (rsC ep mv tk fl hi true (sgV ep an v (clq v0)) (sgA ep an v (clq v0) r (clq y0)) (sgS ep an v (clq v0) st) (sgL fl hi (clq v0) (clq y0) lo)) w' ∧ Beside b w w' := by
  have bx := clq_bd v0
  have by0 := clq_bd y0
  have C1 := Lib.hid (fun u => r16clip_any v0 u)
  have C2 := Lib.hid (fun u => r16clip_any y0 u)
  generalize clq v0 = x at *
  generalize clq y0 = y at *
  have tk1 := ok.tk1
  clear ok
  have A1 := fun u => rabs01_any (x - v) u (by omega)
  rw [far_abs] at A1
  replace A1 := Lib.hid A1
  have hw1 : IntKind.i64.wrap (x - v) = x - v := IntWalk.i64_in _ ⟨by omega, by omega⟩
  have ab := sgA_bd ep an v x r y by0.1 by0.2 r1 r2
  have hw2 : IntKind.i64.wrap (y - sgA ep an v x r y) = y - sgA ep an v x r y := IntWalk.i64_in _ ⟨by omega, by omega⟩
  have A2 := fun u => rabs01_any (y - sgA ep an v x r y) u (by omega)
  rw [far_abs] at A2
  replace A2 := Lib.hid A2
  have HO := Lib.hid (show sgOut mv tk (sgS ep an v x st) y (sgA ep an v x r y) (sgL fl hi x y lo) = (if (decide (tk ≤ sgS ep an v x st) && decide (mv < far y (sgA ep an v x r y))) = true then 1 else 0) + (if tk ≤ sgL fl hi x y lo then 2 else 0) from rfl)
  generalize sgOut mv tk (sgS ep an v x st) y (sgA ep an v x r y) (sgL fl hi x y lo) = q at HO ⊢
  have K0 := Lib.hid (show sgK ep an v x = (an && decide (far x v ≤ ep)) from rfl)
  have K1 := Lib.hid (show sgV ep an v x = (if sgK ep an v x then v else x) from rfl)
  have K2 := Lib.hid (show sgA ep an v x r y = (if sgK ep an v x then r else y) from rfl)
  have K3 := Lib.hid (show sgS ep an v x st = (if sgK ep an v x then st + 1 else 0) from rfl)
  have K4 := Lib.hid (show sgL fl hi x y lo = (if decide (x < fl) && decide (hi ≤ y) then lo + 1 else 0) from rfl)
  generalize sgK ep an v x = kk at *
  generalize sgV ep an v x = V at *
  generalize sgA ep an v x r y = A at *
  generalize sgS ep an v x st = S at *
  generalize sgL fl hi x y lo = L at *
  generalize far x v = d1 at *
  generalize far y A = d2 at *
  have B0 := Lib.hid (HB.start h)
  clear bx by0 v1 v2 r1 r2 ab
  have HH := Lib.hid h
  clear h
  go_enter Try.func16, Try.ntmps16
  go_wp2_with (go_at_call 19; (first | (with_reducible refine (C1.out _).mono ?_) | (with_reducible refine (C2.out _).mono ?_)); rintro e w' ⟨rfl, rfl⟩)
  go_cut [30] from 8 (fun s u => s = .bool kk ∧ Hid (HB b (rsC ep mv tk fl hi an v r st lo) w u))
  case first =>
    have hh := HH.out
    obtain ⟨c0, f0⟩ := hh.one 0 rfl
    obtain ⟨c1, f1⟩ := hh.one 1 rfl
    obtain ⟨c2, f2⟩ := hh.one 2 rfl
    obtain ⟨c3, f3⟩ := hh.one 3 rfl
    obtain ⟨c4, f4⟩ := hh.one 4 rfl
    obtain ⟨c5, f5⟩ := hh.one 5 rfl
    obtain ⟨c6, f6⟩ := hh.one 6 rfl
    obtain ⟨c7, f7⟩ := hh.one 7 rfl
    obtain ⟨c8, f8⟩ := hh.one 8 rfl
    obtain ⟨c9, f9⟩ := hh.one 9 rfl
    clear hh
    have kk0 := K0.out
    cases an
    · rw [Bool.false_and] at kk0
      subst kk0
      refine region_still [] [(.free, 0), (.free, 1), (.free, 2), (.take, 3), (.free, 4), (.free, 5), (.free, 6), (.free, 7), (.free, 8), (.take, 9), (.free, 10), (.free, 12), (.free, 13), (.free, 14), (.free, 15), (.take, 16), (.step, 11), (.free, 17), (.free, 18)] _ (by kernel_rfl) (by kernel_rfl) (by kernel_rfl) (by kernel_rfl) (by decide) rfl (fun _ _ _ _ _ h => h) ?_
      simp only [List.filterMap_cons, List.filterMap_nil, List.getElem?_toArray, List.getElem?_cons_zero, List.getElem?_cons_succ, Option.map_some]
      iterate 3
        first
          | (refine mv_free ?_ (Or.inl ⟨by rfl, ?_⟩) (rfl) ?_
             rotate_left 1
             · intro u
               go_simp
               try with_reducible rfl
             simp only [Act.put, List.setIfInBounds_toArray, List.set_cons_zero, List.set_cons_succ])
          | (refine mv_free _ (Or.inr ⟨by rfl, rfl⟩) (rfl) ?_
             simp only [Act.put, List.setIfInBounds_toArray, List.set_cons_zero, List.set_cons_succ])
      iterate 1
        first
          | (refine mv_take ?_ (Or.inl ⟨by rfl, ?_⟩) (rfl) ?_
             rotate_left 1
             · intro u hu
               (try dsimp only at hu)
               go_simp
               try with_reducible rfl
             simp only [Act.put, List.setIfInBounds_toArray, List.set_cons_zero, List.set_cons_succ])
          | (refine mv_take _ (Or.inr ⟨by rfl, rfl⟩) (rfl) ?_
             simp only [Act.put, List.setIfInBounds_toArray, List.set_cons_zero, List.set_cons_succ])
      iterate 5
        first
          | (refine mv_free ?_ (Or.inl ⟨by rfl, ?_⟩) (rfl) ?_
             rotate_left 1
             · intro u
               go_simp
               try with_reducible rfl
             simp only [Act.put, List.setIfInBounds_toArray, List.set_cons_zero, List.set_cons_succ])
          | (refine mv_free _ (Or.inr ⟨by rfl, rfl⟩) (rfl) ?_
             simp only [Act.put, List.setIfInBounds_toArray, List.set_cons_zero, List.set_cons_succ])
      iterate 1
        first
          | (refine mv_take ?_ (Or.inl ⟨by rfl, ?_⟩) (rfl) ?_
             rotate_left 1
             · intro u hu
               (try dsimp only at hu)
               go_simp
               try with_reducible rfl
             simp only [Act.put, List.setIfInBounds_toArray, List.set_cons_zero, List.set_cons_succ])
          | (refine mv_take _ (Or.inr ⟨by rfl, rfl⟩) (rfl) ?_
             simp only [Act.put, List.setIfInBounds_toArray, List.set_cons_zero, List.set_cons_succ])
      iterate 5
        first
          | (refine mv_free ?_ (Or.inl ⟨by rfl, ?_⟩) (rfl) ?_
             rotate_left 1
             · intro u
               go_simp
               try with_reducible rfl
             simp only [Act.put, List.setIfInBounds_toArray, List.set_cons_zero, List.set_cons_succ])
          | (refine mv_free _ (Or.inr ⟨by rfl, rfl⟩) (rfl) ?_
             simp only [Act.put, List.setIfInBounds_toArray, List.set_cons_zero, List.set_cons_succ])
      iterate 1
        first
          | (refine mv_take ?_ (Or.inl ⟨by rfl, ?_⟩) (rfl) ?_
             rotate_left 1
             · intro u hu
               (try dsimp only at hu)
               go_simp
               try with_reducible rfl
             simp only [Act.put, List.setIfInBounds_toArray, List.set_cons_zero, List.set_cons_succ])
          | (refine mv_take _ (Or.inr ⟨by rfl, rfl⟩) (rfl) ?_
             simp only [Act.put, List.setIfInBounds_toArray, List.set_cons_zero, List.set_cons_succ])
      refine mv_step (fun K hK => ?_)
      go_simp
      refine hK.out _ _ _ (fun u hu => hu) (rfl) ?_
      clear hK K
      iterate 2
        first
          | (refine mv_free ?_ (Or.inl ⟨by rfl, ?_⟩) (rfl) ?_
             rotate_left 1
             · intro u
               go_simp
               try with_reducible rfl
             simp only [Act.put, List.setIfInBounds_toArray, List.set_cons_zero, List.set_cons_succ])
          | (refine mv_free _ (Or.inr ⟨by rfl, rfl⟩) (rfl) ?_
             simp only [Act.put, List.setIfInBounds_toArray, List.set_cons_zero, List.set_cons_succ])
      refine mv_done ?_
      go_wp2_with fail
      go_meet
      case rel => exact ⟨rfl, Lib.hid (B0.out.as rfl rfl rfl rfl)⟩
    · cases kd : decide (d1 ≤ ep)
      all_goals
        rw [kd, Bool.true_and] at kk0
        subst kk0
        refine region_still [] [(.free, 0), (.free, 1), (.free, 2), (.take, 3), (.free, 4), (.free, 5), (.free, 6), (.free, 7), (.free, 8), (.take, 9), (.free, 10), (.free, 12), (.free, 13), (.free, 14), (.free, 15), (.take, 16), (.step, 11), (.free, 17), (.free, 18)] _ (by kernel_rfl) (by kernel_rfl) (by kernel_rfl) (by kernel_rfl) (by decide) rfl (fun _ _ _ _ _ h => h) ?_
        simp only [List.filterMap_cons, List.filterMap_nil, List.getElem?_toArray, List.getElem?_cons_zero, List.getElem?_cons_succ, Option.map_some]
        iterate 3
          first
            | (refine mv_free ?_ (Or.inl ⟨by rfl, ?_⟩) (rfl) ?_
               rotate_left 1
               · intro u
                 go_simp
                 try with_reducible rfl
               simp only [Act.put, List.setIfInBounds_toArray, List.set_cons_zero, List.set_cons_succ])
            | (refine mv_free _ (Or.inr ⟨by rfl, rfl⟩) (rfl) ?_
               simp only [Act.put, List.setIfInBounds_toArray, List.set_cons_zero, List.set_cons_succ])
        iterate 1
          first
            | (refine mv_take ?_ (Or.inl ⟨by rfl, ?_⟩) (rfl) ?_
               rotate_left 1
               · intro u hu
                 (try dsimp only at hu)
                 go_simp
                 try with_reducible rfl
               simp only [Act.put, List.setIfInBounds_toArray, List.set_cons_zero, List.set_cons_succ])
            | (refine mv_take _ (Or.inr ⟨by rfl, rfl⟩) (rfl) ?_
               simp only [Act.put, List.setIfInBounds_toArray, List.set_cons_zero, List.set_cons_succ])
        iterate 5
          first
            | (refine mv_free ?_ (Or.inl ⟨by rfl, ?_⟩) (rfl) ?_
               rotate_left 1
               · intro u
                 go_simp
                 try with_reducible rfl
               simp only [Act.put, List.setIfInBounds_toArray, List.set_cons_zero, List.set_cons_succ])
            | (refine mv_free _ (Or.inr ⟨by rfl, rfl⟩) (rfl) ?_
               simp only [Act.put, List.setIfInBounds_toArray, List.set_cons_zero, List.set_cons_succ])
        iterate 1
          first
            | (refine mv_take ?_ (Or.inl ⟨by rfl, ?_⟩) (rfl) ?_
               rotate_left 1
               · intro u hu
                 (try dsimp only at hu)
                 go_simp
                 try with_reducible rfl
               simp only [Act.put, List.setIfInBounds_toArray, List.set_cons_zero, List.set_cons_succ])
            | (refine mv_take _ (Or.inr ⟨by rfl, rfl⟩) (rfl) ?_
               simp only [Act.put, List.setIfInBounds_toArray, List.set_cons_zero, List.set_cons_succ])
        iterate 5
          first
            | (refine mv_free ?_ (Or.inl ⟨by rfl, ?_⟩) (rfl) ?_
               rotate_left 1
               · intro u
                 go_simp
                 try with_reducible rfl
               simp only [Act.put, List.setIfInBounds_toArray, List.set_cons_zero, List.set_cons_succ])
            | (refine mv_free _ (Or.inr ⟨by rfl, rfl⟩) (rfl) ?_
               simp only [Act.put, List.setIfInBounds_toArray, List.set_cons_zero, List.set_cons_succ])
        iterate 1
          first
            | (refine mv_take ?_ (Or.inl ⟨by rfl, ?_⟩) (rfl) ?_
               rotate_left 1
               · intro u hu
                 (try dsimp only at hu)
                 go_simp
                 try with_reducible rfl
               simp only [Act.put, List.setIfInBounds_toArray, List.set_cons_zero, List.set_cons_succ])
            | (refine mv_take _ (Or.inr ⟨by rfl, rfl⟩) (rfl) ?_
               simp only [Act.put, List.setIfInBounds_toArray, List.set_cons_zero, List.set_cons_succ])
        refine mv_step (fun K hK => ?_)
        go_simp
        refine (A1.out _).mono ?_
        rintro e w' ⟨rfl, rfl⟩
        go_wp2_with fail
        refine hK.out _ _ _ (fun u hu => hu) (rfl) ?_
        clear hK K
        iterate 2
          first
            | (refine mv_free ?_ (Or.inl ⟨by rfl, ?_⟩) (rfl) ?_
               rotate_left 1
               · intro u
                 go_simp
                 try with_reducible rfl
               simp only [Act.put, List.setIfInBounds_toArray, List.set_cons_zero, List.set_cons_succ])
            | (refine mv_free _ (Or.inr ⟨by rfl, rfl⟩) (rfl) ?_
               simp only [Act.put, List.setIfInBounds_toArray, List.set_cons_zero, List.set_cons_succ])
        refine mv_done ?_
        go_wp2_with fail
        go_meet
        case rel => exact ⟨rfl, Lib.hid (B0.out.as rfl rfl rfl rfl)⟩
  case rest =>
    obtain ⟨rfl, B1⟩ := hcut
    clear A1 B0 HH
    obtain ⟨LL, hLL⟩ : ∃ LL, (decide (x < fl) && decide (hi ≤ y)) = LL := ⟨_, rfl⟩
    rw [hLL] at K4
    replace hLL := Lib.hid hLL
    obtain ⟨FF, hFF⟩ : ∃ FF, (decide (tk ≤ S) && decide (mv < d2)) = FF := ⟨_, rfl⟩
    rw [hFF] at HO
    replace hFF := Lib.hid hFF
    go_upto_if 30 with (fail)
    go_cut [] from 8 (fun u => Hid (HB b (rsC ep mv tk fl hi true V A S lo) w u))
    case first =>
      have hh := B1.out.held
      obtain ⟨c0, f0⟩ := hh.one 0 rfl
      obtain ⟨c1, f1⟩ := hh.one 1 rfl
      obtain ⟨c2, f2⟩ := hh.one 2 rfl
      obtain ⟨c3, f3⟩ := hh.one 3 rfl
      obtain ⟨c4, f4⟩ := hh.one 4 rfl
      obtain ⟨c5, f5⟩ := hh.one 5 rfl
      obtain ⟨c6, f6⟩ := hh.one 6 rfl
      obtain ⟨c7, f7⟩ := hh.one 7 rfl
      obtain ⟨c8, f8⟩ := hh.one 8 rfl
      obtain ⟨c9, f9⟩ := hh.one 9 rfl
      clear hh
      have k0 := K0.out
      have k1 := K1.out
      have k2 := K2.out
      have k3 := K3.out
      cases kk
      · simp only [if_false, Bool.false_eq_true] at k1 k2 k3
        clear K0 K1 K2 K3 k0 hFF A2 HO K4 hLL hw2
        subst V A S
        go_wp2
        go_meet
        case rel => exact Lib.hid (((((B1.out.set 5 (.int .i64 x) (by simp [rsC])).set 6 (.int .i64 y) (by simp [rsC])).set 7 (.bool true) (by simp [rsC])).set 8 (.int .i64 0) (by simp [rsC])).as rfl rfl rfl rfl)
      · obtain rfl : an = true := by
          cases an
          · rw [Bool.false_and] at k0; cases k0
          · rfl
        simp only [if_true] at k1 k2 k3
        clear K0 K1 K2 K3 k0 hFF A2 HO K4 hLL hw2
        subst V A S
        go_wp2
        go_meet
        case rel => exact Lib.hid ((B1.out.set 8 (.int .i64 (st + 1)) (by simp [rsC])).as rfl rfl rfl rfl)
    case rest =>
      clear K0 K1 K2 K3 B1 kk
      have B2 := Lib.hid hcut.out
      clear hcut
      go_upto_region 9 with (fail)
      go_cut [67] from 8 (fun s u => s = .bool LL ∧ Hid (HB b (rsC ep mv tk fl hi true V A S lo) w u))
      case first =>
        have hh := B2.out.held
        obtain ⟨c0, f0⟩ := hh.one 0 rfl
        obtain ⟨c1, f1⟩ := hh.one 1 rfl
        obtain ⟨c2, f2⟩ := hh.one 2 rfl
        obtain ⟨c3, f3⟩ := hh.one 3 rfl
        obtain ⟨c4, f4⟩ := hh.one 4 rfl
        obtain ⟨c5, f5⟩ := hh.one 5 rfl
        obtain ⟨c6, f6⟩ := hh.one 6 rfl
        obtain ⟨c7, f7⟩ := hh.one 7 rfl
        obtain ⟨c8, f8⟩ := hh.one 8 rfl
        obtain ⟨c9, f9⟩ := hh.one 9 rfl
        clear hh
        have k0 := hLL.out
        by_cases hx : x < fl
        · by_cases hy : hi ≤ y
          · rw [decide_eq_true hx, decide_eq_true hy] at k0
            clear hLL
            subst LL
            go_wp2
            go_meet
            case rel => exact ⟨rfl, Lib.hid (B2.out.as rfl rfl rfl rfl)⟩
          · rw [decide_eq_true hx, decide_eq_false hy] at k0
            clear hLL
            subst LL
            go_wp2
            go_meet
            case rel => exact ⟨rfl, Lib.hid (B2.out.as rfl rfl rfl rfl)⟩
        · rw [decide_eq_false hx, Bool.false_and] at k0
          clear hLL
          subst LL
          go_wp2
          go_meet
          case rel => exact ⟨rfl, Lib.hid (B2.out.as rfl rfl rfl rfl)⟩
      case rest =>
        clear hLL B2
        obtain ⟨rfl, B1⟩ := hcut
        go_upto_if 67 with (fail)
        go_cut [] from 8 (fun u => Hid (HB b (rsC ep mv tk fl hi true V A S L) w u))
        case first =>
          have hh := B1.out.held
          obtain ⟨c0, f0⟩ := hh.one 0 rfl
          obtain ⟨c1, f1⟩ := hh.one 1 rfl
          obtain ⟨c2, f2⟩ := hh.one 2 rfl
          obtain ⟨c3, f3⟩ := hh.one 3 rfl
          obtain ⟨c4, f4⟩ := hh.one 4 rfl
          obtain ⟨c5, f5⟩ := hh.one 5 rfl
          obtain ⟨c6, f6⟩ := hh.one 6 rfl
          obtain ⟨c7, f7⟩ := hh.one 7 rfl
          obtain ⟨c8, f8⟩ := hh.one 8 rfl
          obtain ⟨c9, f9⟩ := hh.one 9 rfl
          clear hh
          have k4 := K4.out
          cases LL
          · simp only [if_false, Bool.false_eq_true] at k4
            clear K4 HO
            subst L
            go_wp2
            go_meet
            case rel => exact Lib.hid ((B1.out.set 9 (.int .i64 0) (by simp [rsC])).as rfl rfl rfl rfl)
          · simp only [if_true] at k4
            clear K4 HO
            subst L
            go_wp2
            go_meet
            case rel => exact Lib.hid ((B1.out.set 9 (.int .i64 (lo + 1)) (by simp [rsC])).as rfl rfl rfl rfl)
        case rest =>
          clear B1 K4
          have B3 := Lib.hid hcut.out
          clear hcut
          have k0 := hFF.out
          go_upto_region 13 with (fail)
          go_cut [102] from 8 (fun s u => s = .bool FF ∧ Hid (HB b (rsC ep mv tk fl hi true V A S L) w u))
          case first =>
            have hh := B3.out.held
            obtain ⟨c0, f0⟩ := hh.one 0 rfl
            obtain ⟨c1, f1⟩ := hh.one 1 rfl
            obtain ⟨c2, f2⟩ := hh.one 2 rfl
            obtain ⟨c3, f3⟩ := hh.one 3 rfl
            obtain ⟨c4, f4⟩ := hh.one 4 rfl
            obtain ⟨c5, f5⟩ := hh.one 5 rfl
            obtain ⟨c6, f6⟩ := hh.one 6 rfl
            obtain ⟨c7, f7⟩ := hh.one 7 rfl
            obtain ⟨c8, f8⟩ := hh.one 8 rfl
            obtain ⟨c9, f9⟩ := hh.one 9 rfl
            clear hh HO
            cases hs : decide (tk ≤ S)
            · rw [hs, Bool.false_and] at k0
              clear hFF
              subst FF
              refine region_still [] [(.free, 0), (.free, 1), (.free, 2), (.take, 3), (.free, 4), (.free, 5), (.free, 6), (.free, 7), (.take, 8), (.free, 9), (.free, 10), (.free, 11), (.free, 12), (.free, 13), (.free, 14), (.take, 15), (.free, 16), (.free, 18), (.free, 19), (.free, 20), (.free, 21), (.take, 22), (.step, 17), (.free, 23), (.free, 24)] _ (by kernel_rfl) (by kernel_rfl) (by kernel_rfl) (by kernel_rfl) (by decide) rfl (fun _ _ _ _ _ h => h) ?_
              simp only [List.filterMap_cons, List.filterMap_nil, List.getElem?_toArray, List.getElem?_cons_zero, List.getElem?_cons_succ, Option.map_some]
              iterate 3
                first
                  | (refine mv_free ?_ (Or.inl ⟨by rfl, ?_⟩) (rfl) ?_
                     rotate_left 1
                     · intro u
                       go_simp
                       try with_reducible rfl
                     simp only [Act.put, List.setIfInBounds_toArray, List.set_cons_zero, List.set_cons_succ])
                  | (refine mv_free _ (Or.inr ⟨by rfl, rfl⟩) (rfl) ?_
                     simp only [Act.put, List.setIfInBounds_toArray, List.set_cons_zero, List.set_cons_succ])
              iterate 1
                first
                  | (refine mv_take ?_ (Or.inl ⟨by rfl, ?_⟩) (rfl) ?_
                     rotate_left 1
                     · intro u hu
                       (try dsimp only at hu)
                       go_simp
                       try with_reducible rfl
                     simp only [Act.put, List.setIfInBounds_toArray, List.set_cons_zero, List.set_cons_succ])
                  | (refine mv_take _ (Or.inr ⟨by rfl, rfl⟩) (rfl) ?_
                     simp only [Act.put, List.setIfInBounds_toArray, List.set_cons_zero, List.set_cons_succ])
              iterate 4
                first
                  | (refine mv_free ?_ (Or.inl ⟨by rfl, ?_⟩) (rfl) ?_
                     rotate_left 1
                     · intro u
                       go_simp
                       try with_reducible rfl
                     simp only [Act.put, List.setIfInBounds_toArray, List.set_cons_zero, List.set_cons_succ])
                  | (refine mv_free _ (Or.inr ⟨by rfl, rfl⟩) (rfl) ?_
                     simp only [Act.put, List.setIfInBounds_toArray, List.set_cons_zero, List.set_cons_succ])
              iterate 1
                first
                  | (refine mv_take ?_ (Or.inl ⟨by rfl, ?_⟩) (rfl) ?_
                     rotate_left 1
                     · intro u hu
                       (try dsimp only at hu)
                       go_simp
                       try with_reducible rfl
                     simp only [Act.put, List.setIfInBounds_toArray, List.set_cons_zero, List.set_cons_succ])
                  | (refine mv_take _ (Or.inr ⟨by rfl, rfl⟩) (rfl) ?_
                     simp only [Act.put, List.setIfInBounds_toArray, List.set_cons_zero, List.set_cons_succ])
              iterate 6
                first
                  | (refine mv_free ?_ (Or.inl ⟨by rfl, ?_⟩) (rfl) ?_
                     rotate_left 1
                     · intro u
                       go_simp
                       try with_reducible rfl
                     simp only [Act.put, List.setIfInBounds_toArray, List.set_cons_zero, List.set_cons_succ])
                  | (refine mv_free _ (Or.inr ⟨by rfl, rfl⟩) (rfl) ?_
                     simp only [Act.put, List.setIfInBounds_toArray, List.set_cons_zero, List.set_cons_succ])
              iterate 1
                first
                  | (refine mv_take ?_ (Or.inl ⟨by rfl, ?_⟩) (rfl) ?_
                     rotate_left 1
                     · intro u hu
                       (try dsimp only at hu)
                       go_simp
                       try with_reducible rfl
                     simp only [Act.put, List.setIfInBounds_toArray, List.set_cons_zero, List.set_cons_succ])
                  | (refine mv_take _ (Or.inr ⟨by rfl, rfl⟩) (rfl) ?_
                     simp only [Act.put, List.setIfInBounds_toArray, List.set_cons_zero, List.set_cons_succ])
              iterate 5
                first
                  | (refine mv_free ?_ (Or.inl ⟨by rfl, ?_⟩) (rfl) ?_
                     rotate_left 1
                     · intro u
                       go_simp
                       try with_reducible rfl
                     simp only [Act.put, List.setIfInBounds_toArray, List.set_cons_zero, List.set_cons_succ])
                  | (refine mv_free _ (Or.inr ⟨by rfl, rfl⟩) (rfl) ?_
                     simp only [Act.put, List.setIfInBounds_toArray, List.set_cons_zero, List.set_cons_succ])
              iterate 1
                first
                  | (refine mv_take ?_ (Or.inl ⟨by rfl, ?_⟩) (rfl) ?_
                     rotate_left 1
                     · intro u hu
                       (try dsimp only at hu)
                       go_simp
                       try with_reducible rfl
                     simp only [Act.put, List.setIfInBounds_toArray, List.set_cons_zero, List.set_cons_succ])
                  | (refine mv_take _ (Or.inr ⟨by rfl, rfl⟩) (rfl) ?_
                     simp only [Act.put, List.setIfInBounds_toArray, List.set_cons_zero, List.set_cons_succ])
              refine mv_step (fun K hK => ?_)
              go_simp
              refine hK.out _ _ _ (fun u hu => hu) (rfl) ?_
              clear hK K
              iterate 2
                first
                  | (refine mv_free ?_ (Or.inl ⟨by rfl, ?_⟩) (rfl) ?_
                     rotate_left 1
                     · intro u
                       go_simp
                       try with_reducible rfl
                     simp only [Act.put, List.setIfInBounds_toArray, List.set_cons_zero, List.set_cons_succ])
                  | (refine mv_free _ (Or.inr ⟨by rfl, rfl⟩) (rfl) ?_
                     simp only [Act.put, List.setIfInBounds_toArray, List.set_cons_zero, List.set_cons_succ])
              refine mv_done ?_
              go_wp2_with fail
              go_meet
              case rel => exact ⟨rfl, Lib.hid (B3.out.as rfl rfl rfl rfl)⟩
            · rw [hs, Bool.true_and] at k0
              clear hFF
              subst FF
              refine region_still [] [(.free, 0), (.free, 1), (.free, 2), (.take, 3), (.free, 4), (.free, 5), (.free, 6), (.free, 7), (.take, 8), (.free, 9), (.free, 10), (.free, 11), (.free, 12), (.free, 13), (.free, 14), (.take, 15), (.free, 16), (.free, 18), (.free, 19), (.free, 20), (.free, 21), (.take, 22), (.step, 17), (.free, 23), (.free, 24)] _ (by kernel_rfl) (by kernel_rfl) (by kernel_rfl) (by kernel_rfl) (by decide) rfl (fun _ _ _ _ _ h => h) ?_
              simp only [List.filterMap_cons, List.filterMap_nil, List.getElem?_toArray, List.getElem?_cons_zero, List.getElem?_cons_succ, Option.map_some]
              iterate 3
                first
                  | (refine mv_free ?_ (Or.inl ⟨by rfl, ?_⟩) (rfl) ?_
                     rotate_left 1
                     · intro u
                       go_simp
                       try with_reducible rfl
                     simp only [Act.put, List.setIfInBounds_toArray, List.set_cons_zero, List.set_cons_succ])
                  | (refine mv_free _ (Or.inr ⟨by rfl, rfl⟩) (rfl) ?_
                     simp only [Act.put, List.setIfInBounds_toArray, List.set_cons_zero, List.set_cons_succ])
              iterate 1
                first
                  | (refine mv_take ?_ (Or.inl ⟨by rfl, ?_⟩) (rfl) ?_
                     rotate_left 1
                     · intro u hu
                       (try dsimp only at hu)
                       go_simp
                       try with_reducible rfl
                     simp only [Act.put, List.setIfInBounds_toArray, List.set_cons_zero, List.set_cons_succ])
                  | (refine mv_take _ (Or.inr ⟨by rfl, rfl⟩) (rfl) ?_
                     simp only [Act.put, List.setIfInBounds_toArray, List.set_cons_zero, List.set_cons_succ])
              iterate 4
                first
                  | (refine mv_free ?_ (Or.inl ⟨by rfl, ?_⟩) (rfl) ?_
                     rotate_left 1
                     · intro u
                       go_simp
                       try with_reducible rfl
                     simp only [Act.put, List.setIfInBounds_toArray, List.set_cons_zero, List.set_cons_succ])
                  | (refine mv_free _ (Or.inr ⟨by rfl, rfl⟩) (rfl) ?_
                     simp only [Act.put, List.setIfInBounds_toArray, List.set_cons_zero, List.set_cons_succ])
              iterate 1
                first
                  | (refine mv_take ?_ (Or.inl ⟨by rfl, ?_⟩) (rfl) ?_
                     rotate_left 1
                     · intro u hu
                       (try dsimp only at hu)
                       go_simp
                       try with_reducible rfl
                     simp only [Act.put, List.setIfInBounds_toArray, List.set_cons_zero, List.set_cons_succ])
                  | (refine mv_take _ (Or.inr ⟨by rfl, rfl⟩) (rfl) ?_
                     simp only [Act.put, List.setIfInBounds_toArray, List.set_cons_zero, List.set_cons_succ])
              iterate 6
                first
                  | (refine mv_free ?_ (Or.inl ⟨by rfl, ?_⟩) (rfl) ?_
                     rotate_left 1
                     · intro u
                       go_simp
                       try with_reducible rfl
                     simp only [Act.put, List.setIfInBounds_toArray, List.set_cons_zero, List.set_cons_succ])
                  | (refine mv_free _ (Or.inr ⟨by rfl, rfl⟩) (rfl) ?_
                     simp only [Act.put, List.setIfInBounds_toArray, List.set_cons_zero, List.set_cons_succ])
              iterate 1
                first
                  | (refine mv_take ?_ (Or.inl ⟨by rfl, ?_⟩) (rfl) ?_
                     rotate_left 1
                     · intro u hu
                       (try dsimp only at hu)
                       go_simp
                       try with_reducible rfl
                     simp only [Act.put, List.setIfInBounds_toArray, List.set_cons_zero, List.set_cons_succ])
                  | (refine mv_take _ (Or.inr ⟨by rfl, rfl⟩) (rfl) ?_
                     simp only [Act.put, List.setIfInBounds_toArray, List.set_cons_zero, List.set_cons_succ])
              iterate 5
                first
                  | (refine mv_free ?_ (Or.inl ⟨by rfl, ?_⟩) (rfl) ?_
                     rotate_left 1
                     · intro u
                       go_simp
                       try with_reducible rfl
                     simp only [Act.put, List.setIfInBounds_toArray, List.set_cons_zero, List.set_cons_succ])
                  | (refine mv_free _ (Or.inr ⟨by rfl, rfl⟩) (rfl) ?_
                     simp only [Act.put, List.setIfInBounds_toArray, List.set_cons_zero, List.set_cons_succ])
              iterate 1
                first
                  | (refine mv_take ?_ (Or.inl ⟨by rfl, ?_⟩) (rfl) ?_
                     rotate_left 1
                     · intro u hu
                       (try dsimp only at hu)
                       go_simp
                       try with_reducible rfl
                     simp only [Act.put, List.setIfInBounds_toArray, List.set_cons_zero, List.set_cons_succ])
                  | (refine mv_take _ (Or.inr ⟨by rfl, rfl⟩) (rfl) ?_
                     simp only [Act.put, List.setIfInBounds_toArray, List.set_cons_zero, List.set_cons_succ])
              refine mv_step (fun K hK => ?_)
              go_simp
              refine (A2.out _).mono ?_
              rintro e w' ⟨rfl, rfl⟩
              go_wp2_with fail
              refine hK.out _ _ _ (fun u hu => hu) (rfl) ?_
              clear hK K
              iterate 2
                first
                  | (refine mv_free ?_ (Or.inl ⟨by rfl, ?_⟩) (rfl) ?_
                     rotate_left 1
                     · intro u
                       go_simp
                       try with_reducible rfl
                     simp only [Act.put, List.setIfInBounds_toArray, List.set_cons_zero, List.set_cons_succ])
                  | (refine mv_free _ (Or.inr ⟨by rfl, rfl⟩) (rfl) ?_
                     simp only [Act.put, List.setIfInBounds_toArray, List.set_cons_zero, List.set_cons_succ])
              refine mv_done ?_
              go_wp2_with fail
              go_meet
              case rel => exact ⟨rfl, Lib.hid (B3.out.as rfl rfl rfl rfl)⟩
          case rest =>
            clear B3 hFF A2 hw2 k0
            obtain ⟨rfl, B4⟩ := hcut
            have hh := B4.out.held
            obtain ⟨c0, f0⟩ := hh.one 0 rfl
            obtain ⟨c1, f1⟩ := hh.one 1 rfl
            obtain ⟨c2, f2⟩ := hh.one 2 rfl
            obtain ⟨c3, f3⟩ := hh.one 3 rfl
            obtain ⟨c4, f4⟩ := hh.one 4 rfl
            obtain ⟨c5, f5⟩ := hh.one 5 rfl
            obtain ⟨c6, f6⟩ := hh.one 6 rfl
            obtain ⟨c7, f7⟩ := hh.one 7 rfl
            obtain ⟨c8, f8⟩ := hh.one 8 rfl
            obtain ⟨c9, f9⟩ := hh.one 9 rfl
            clear hh
            have ho := HO.out
            clear HO
            cases FF
            all_goals
              simp only [if_true, if_false, Bool.false_eq_true] at ho
              by_cases hl : tk ≤ L
              all_goals
                have hl2 := hl
                simp only [hl, if_true, if_false] at ho
                first
                  | (replace hl := decide_eq_true hl)
                  | (replace hl := decide_eq_false hl)
                subst q
                go_wp2_with fail
                refine region_still [] [(.free, 0), (.free, 1), (.free, 2), (.take, 3), (.free, 4), (.free, 5), (.free, 6), (.free, 7), (.take, 8), (.free, 9)] _ (by kernel_rfl) (by kernel_rfl) (by kernel_rfl) (by kernel_rfl) (by decide) rfl (fun _ _ _ _ _ h => h) ?_
                simp only [List.filterMap_cons, List.filterMap_nil, List.getElem?_toArray, List.getElem?_cons_zero, List.getElem?_cons_succ, Option.map_some]
                iterate 3
                  first
                    | (refine mv_free ?_ (Or.inl ⟨by rfl, ?_⟩) (rfl) ?_
                       rotate_left 1
                       · intro u
                         go_simp
                         try with_reducible rfl
                       simp only [Act.put, List.setIfInBounds_toArray, List.set_cons_zero, List.set_cons_succ])
                    | (refine mv_free _ (Or.inr ⟨by rfl, rfl⟩) (rfl) ?_
                       simp only [Act.put, List.setIfInBounds_toArray, List.set_cons_zero, List.set_cons_succ])
                iterate 1
                  first
                    | (refine mv_take ?_ (Or.inl ⟨by rfl, ?_⟩) (rfl) ?_
                       rotate_left 1
                       · intro u hu
                         (try dsimp only at hu)
                         go_simp
                         try with_reducible rfl
                       simp only [Act.put, List.setIfInBounds_toArray, List.set_cons_zero, List.set_cons_succ])
                    | (refine mv_take _ (Or.inr ⟨by rfl, rfl⟩) (rfl) ?_
                       simp only [Act.put, List.setIfInBounds_toArray, List.set_cons_zero, List.set_cons_succ])
                iterate 4
                  first
                    | (refine mv_free ?_ (Or.inl ⟨by rfl, ?_⟩) (rfl) ?_
                       rotate_left 1
                       · intro u
                         go_simp
                         try with_reducible rfl
                       simp only [Act.put, List.setIfInBounds_toArray, List.set_cons_zero, List.set_cons_succ])
                    | (refine mv_free _ (Or.inr ⟨by rfl, rfl⟩) (rfl) ?_
                       simp only [Act.put, List.setIfInBounds_toArray, List.set_cons_zero, List.set_cons_succ])
                iterate 1
                  first
                    | (refine mv_take ?_ (Or.inl ⟨by rfl, ?_⟩) (rfl) ?_
                       rotate_left 1
                       · intro u hu
                         (try dsimp only at hu)
                         go_simp
                         try with_reducible rfl
                       simp only [Act.put, List.setIfInBounds_toArray, List.set_cons_zero, List.set_cons_succ])
                    | (refine mv_take _ (Or.inr ⟨by rfl, rfl⟩) (rfl) ?_
                       simp only [Act.put, List.setIfInBounds_toArray, List.set_cons_zero, List.set_cons_succ])
                iterate 1
                  first
                    | (refine mv_free ?_ (Or.inl ⟨by rfl, ?_⟩) (rfl) ?_
                       rotate_left 1
                       · intro u
                         go_simp
                         try with_reducible rfl
                       simp only [Act.put, List.setIfInBounds_toArray, List.set_cons_zero, List.set_cons_succ])
                    | (refine mv_free _ (Or.inr ⟨by rfl, rfl⟩) (rfl) ?_
                       simp only [Act.put, List.setIfInBounds_toArray, List.set_cons_zero, List.set_cons_succ])
                refine mv_done ?_
                go_wp2
                go_ret
                exact ⟨rfl, B4.out.fin rfl rfl rfl rfl⟩
end Go.Proofs.Ytffhhdjcodapjaa
