/- The document's gate; the laws GateNew and GatePlays, walked. -/
import Derived.Test.YtifbedliibhmoaaGate2
namespace Go.Proofs.Ytifbedliibhmoaa
open Go.ChangeShapes Go.WideShapes Go.ChangeAt Go.RowKit
set_option linter.unusedVariables false
set_option linter.unusedSimpArgs false

set_option maxHeartbeats 1000000 in
theorem rabs01_any (n : Int) (w : World) (h : -4611686018427387904 ≤ n) : Calls Try.prog 27 #[.int .i64 n] w fun e w' => e = .returned (.int .i64 (if n < 0 then -n else n)) ∧ w = w' := by
  go_enter Try.func27, Try.ntmps27
  go_wp2
  all_goals
    go_ret
    exact ⟨ret_int (by first | rfl | omega), rfl⟩
set_option maxHeartbeats 1000000 in
theorem rclip01_any (n : Int) (w : World) (h : 0 ≤ n) : Calls Try.prog 64 #[.int .i64 n] w fun e w' => e = .returned (.int .i64 (if 1099511627775 < n then 1099511627775 else n)) ∧ w = w' := by
  go_enter Try.func64, Try.ntmps64
  go_wp2
  all_goals first | (exfalso; omega) | skip
  all_goals
    go_ret
    exact ⟨ret_int (by first | rfl | omega), rfl⟩

set_option maxHeartbeats 1000000 in
theorem rgmiss_any (b : Nat) {lo hi ra la : Int} {kn : Bool} {tk : Int} (w : World) (h : Held b (gaC lo hi ra la kn tk) w) (t0 : 0 ≤ tk) (t1 : tk ≤ 1000) : Calls Try.prog 25 #[.pointer (some ⟨b, 0, none⟩)] w fun e w' => e = .returned (.tuple #[]) ∧ Held b (gaC lo hi ra la kn (gaT tk)) w' ∧ Beside b w w' := by
  obtain ⟨c0, f0⟩ := h.one 0 rfl
  obtain ⟨c1, f1⟩ := h.one 1 rfl
  obtain ⟨c2, f2⟩ := h.one 2 rfl
  obtain ⟨c3, f3⟩ := h.one 3 rfl
  obtain ⟨c4, f4⟩ := h.one 4 rfl
  obtain ⟨c5, f5⟩ := h.one 5 rfl
  by_cases hc : tk < 1000
  · rw [show gaT tk = tk + 1 by unfold gaT; rw [if_pos hc]]
    go_enter Try.func25, Try.ntmps25
    go_wp2
    all_goals first | (exfalso; omega) | skip
    go_end0
    exact ⟨rfl, ((HB.start h).set 5 (.int .i64 (tk + 1)) (by simp [gaC])).fin rfl rfl rfl rfl⟩
  · obtain rfl : tk = 1000 := by omega
    rw [show gaT 1000 = 1000 by decide]
    go_enter Try.func25, Try.ntmps25
    go_wp2
    all_goals first | (exfalso; omega) | skip
    go_end0
    exact ⟨rfl, (HB.start h).fin rfl rfl rfl rfl⟩

set_option maxRecDepth 100000 in
set_option maxHeartbeats 4000000 in
theorem rgcheck_any (b : Nat) {lo hi ra la : Int} {kn : Bool} {tk : Int} (v : Int) (w : World) (h : Held b (gaC lo hi ra la kn tk) w) (ok : GaOk lo hi ra) (t0 : 0 ≤ tk) (t1 : tk ≤ 1000) (l0 : -549755813887 ≤ la) (l1 : la ≤ 549755813887) :
    Calls Try.prog 26 #[.pointer (some ⟨b, 0, none⟩), .int .i64 v] w fun r w' => r = .returned (.int .i64 (gaE lo hi ra la kn (gaT tk) v)) ∧ Held b (gaC lo hi ra (gaA (gaE lo hi ra la kn (gaT tk) v) v la) (gaB (gaE lo hi ra la kn (gaT tk) v) kn) (gaN (gaE lo hi ra la kn (gaT tk) v) (gaT tk))) w' ∧ Beside b w w' := by
  obtain ⟨o1, o2, o3, o4, o5⟩ := ok
  have MS := Lib.hid (fun u hu => rgmiss_any (lo := lo) (hi := hi) (ra := ra) (la := la) (kn := kn) (tk := tk) b u hu t0 t1)
  have tb := gaT_bd t0 t1
  generalize gaT tk = t at *
  have ba := h.lt
  by_cases c1 : v < lo
  · have e : gaE lo hi ra la kn t v = 8 := by unfold gaE; rw [if_pos c1]
    rw [e]
    go_enter Try.func26, Try.ntmps26
    go_wp2_with fail
    refine (MS.out _ h).mono ?_
    rintro r w1 ⟨rfl, h1, ob1⟩
    obtain ⟨c0, f0⟩ := h1.one 0 rfl
    obtain ⟨c1, f1⟩ := h1.one 1 rfl
    obtain ⟨c2, f2⟩ := h1.one 2 rfl
    obtain ⟨c3, f3⟩ := h1.one 3 rfl
    obtain ⟨c4, f4⟩ := h1.one 4 rfl
    obtain ⟨c5, f5⟩ := h1.one 5 rfl
    go_wp2
    all_goals first | (exfalso; omega) | skip
    go_ret
    exact ⟨rfl, ((HB.mk h1 ob1).is (show _ = gaC lo hi ra (gaA 8 v la) (gaB 8 kn) (gaN 8 t) by simp [gaA, gaB, gaN])).fin rfl rfl rfl rfl⟩
  · by_cases c2 : hi < v
    · have e : gaE lo hi ra la kn t v = 9 := by unfold gaE; rw [if_neg c1, if_pos c2]
      rw [e]
      go_enter Try.func26, Try.ntmps26
      go_wp2_with fail
      refine (MS.out _ h).mono ?_
      rintro r w1 ⟨rfl, h1, ob1⟩
      obtain ⟨c0, f0⟩ := h1.one 0 rfl
      obtain ⟨c1, f1⟩ := h1.one 1 rfl
      obtain ⟨c2, f2⟩ := h1.one 2 rfl
      obtain ⟨c3, f3⟩ := h1.one 3 rfl
      obtain ⟨c4, f4⟩ := h1.one 4 rfl
      obtain ⟨c5, f5⟩ := h1.one 5 rfl
      go_wp2
      all_goals first | (exfalso; omega) | skip
      go_ret
      exact ⟨rfl, ((HB.mk h1 ob1).is (show _ = gaC lo hi ra (gaA 9 v la) (gaB 9 kn) (gaN 9 t) by simp [gaA, gaB, gaN])).fin rfl rfl rfl rfl⟩
    · have qb := gaQ_bd (ra := ra) (t := t) o4 o5 (by omega) tb.2
      have hw1 : IntKind.i64.wrap (v - la) = v - la := IntWalk.i64_in _ ⟨by omega, by omega⟩
      have hw2 : IntKind.i64.wrap (ra * t) = ra * t := IntWalk.i64_in _ ⟨by omega, by omega⟩
      have AB := Lib.hid (fun u => rabs01_any (v - la) u (by omega))
      have CL := Lib.hid (fun u => rclip01_any (ra * t) u (by omega))
      have HF : gaF ra la kn t v = (kn && decide ((if 1099511627775 < ra * t then 1099511627775 else ra * t) < (if v - la < 0 then -(v - la) else v - la))) := by
        unfold gaF gaM
        rw [show (if v - la < la - v then la - v else v - la) = (if v - la < 0 then -(v - la) else v - la) by split <;> split <;> omega]
      cases hF : gaF ra la kn t v
      · have e : gaE lo hi ra la kn t v = 0 := by unfold gaE; rw [if_neg c1, if_neg c2, hF]; rfl
        rw [e]
        rw [hF] at HF
        cases kn
        · clear HF hF
          go_enter Try.func26, Try.ntmps26
          go_wp2_with fail
          refine (MS.out _ h).mono ?_
          rintro r w1 ⟨rfl, h1, ob1⟩
          obtain ⟨c0, f0⟩ := h1.one 0 rfl
          obtain ⟨c1, f1⟩ := h1.one 1 rfl
          obtain ⟨c2, f2⟩ := h1.one 2 rfl
          obtain ⟨c3, f3⟩ := h1.one 3 rfl
          obtain ⟨c4, f4⟩ := h1.one 4 rfl
          obtain ⟨c5, f5⟩ := h1.one 5 rfl
          go_wp2_with fail
          all_goals first | (exfalso; omega) | skip
          refine region_still [] [(.free, 0), (.free, 1), (.free, 2), (.take, 3), (.free, 4), (.free, 5), (.free, 6), (.free, 7), (.free, 8), (.take, 9), (.free, 10), (.free, 12), (.free, 13), (.free, 14), (.free, 15), (.take, 16), (.free, 17), (.free, 18), (.free, 19), (.take, 20), (.free, 21), (.step, 11), (.step, 22), (.free, 23), (.free, 24)] _ (by kernel_rfl) (by kernel_rfl) (by kernel_rfl) (by kernel_rfl) (by decide) rfl (fun _ _ _ _ _ h => h) ?_
          simp only [List.filterMap_cons, List.filterMap_nil, List.getElem?_toArray, List.getElem?_cons_zero, List.getElem?_cons_succ, Option.map_some]
          iterate 3
            first
              | (refine mv_free ?_ (Or.inl ⟨by rfl, ?_⟩) (rfl) ?_
                 rotate_left 1
                 · intro u
                   go_simp
                   try with_reducible rfl
                 simp only [Act.put, List.setIfInBounds_toArray, List.set_cons_zero, List.set_cons_succ])
              | (refine mv_free _ (Or.inr ⟨by rfl, rfl⟩) (rfl) ?_
                 simp only [Act.put, List.setIfInBounds_toArray, List.set_cons_zero, List.set_cons_succ])
          iterate 1
            first
              | (refine mv_take ?_ (Or.inl ⟨by rfl, ?_⟩) (rfl) ?_
                 rotate_left 1
                 · intro u hu
                   (try dsimp only at hu)
                   go_simp
                   try with_reducible rfl
                 simp only [Act.put, List.setIfInBounds_toArray, List.set_cons_zero, List.set_cons_succ])
              | (refine mv_take _ (Or.inr ⟨by rfl, rfl⟩) (rfl) ?_
                 simp only [Act.put, List.setIfInBounds_toArray, List.set_cons_zero, List.set_cons_succ])
          iterate 5
            first
              | (refine mv_free ?_ (Or.inl ⟨by rfl, ?_⟩) (rfl) ?_
                 rotate_left 1
                 · intro u
                   go_simp
                   try with_reducible rfl
                 simp only [Act.put, List.setIfInBounds_toArray, List.set_cons_zero, List.set_cons_succ])
              | (refine mv_free _ (Or.inr ⟨by rfl, rfl⟩) (rfl) ?_
                 simp only [Act.put, List.setIfInBounds_toArray, List.set_cons_zero, List.set_cons_succ])
          iterate 1
            first
              | (refine mv_take ?_ (Or.inl ⟨by rfl, ?_⟩) (rfl) ?_
                 rotate_left 1
                 · intro u hu
                   (try dsimp only at hu)
                   go_simp
                   try with_reducible rfl
                 simp only [Act.put, List.setIfInBounds_toArray, List.set_cons_zero, List.set_cons_succ])
              | (refine mv_take _ (Or.inr ⟨by rfl, rfl⟩) (rfl) ?_
                 simp only [Act.put, List.setIfInBounds_toArray, List.set_cons_zero, List.set_cons_succ])
          iterate 5
            first
              | (refine mv_free ?_ (Or.inl ⟨by rfl, ?_⟩) (rfl) ?_
                 rotate_left 1
                 · intro u
                   go_simp
                   try with_reducible rfl
                 simp only [Act.put, List.setIfInBounds_toArray, List.set_cons_zero, List.set_cons_succ])
              | (refine mv_free _ (Or.inr ⟨by rfl, rfl⟩) (rfl) ?_
                 simp only [Act.put, List.setIfInBounds_toArray, List.set_cons_zero, List.set_cons_succ])
          iterate 1
            first
              | (refine mv_take ?_ (Or.inl ⟨by rfl, ?_⟩) (rfl) ?_
                 rotate_left 1
                 · intro u hu
                   (try dsimp only at hu)
                   go_simp
                   try with_reducible rfl
                 simp only [Act.put, List.setIfInBounds_toArray, List.set_cons_zero, List.set_cons_succ])
              | (refine mv_take _ (Or.inr ⟨by rfl, rfl⟩) (rfl) ?_
                 simp only [Act.put, List.setIfInBounds_toArray, List.set_cons_zero, List.set_cons_succ])
          iterate 3
            first
              | (refine mv_free ?_ (Or.inl ⟨by rfl, ?_⟩) (rfl) ?_
                 rotate_left 1
                 · intro u
                   go_simp
                   try with_reducible rfl
                 simp only [Act.put, List.setIfInBounds_toArray, List.set_cons_zero, List.set_cons_succ])
              | (refine mv_free _ (Or.inr ⟨by rfl, rfl⟩) (rfl) ?_
                 simp only [Act.put, List.setIfInBounds_toArray, List.set_cons_zero, List.set_cons_succ])
          iterate 1
            first
              | (refine mv_take ?_ (Or.inl ⟨by rfl, ?_⟩) (rfl) ?_
                 rotate_left 1
                 · intro u hu
                   (try dsimp only at hu)
                   go_simp
                   try with_reducible rfl
                 simp only [Act.put, List.setIfInBounds_toArray, List.set_cons_zero, List.set_cons_succ])
              | (refine mv_take _ (Or.inr ⟨by rfl, rfl⟩) (rfl) ?_
                 simp only [Act.put, List.setIfInBounds_toArray, List.set_cons_zero, List.set_cons_succ])
          iterate 1
            first
              | (refine mv_free ?_ (Or.inl ⟨by rfl, ?_⟩) (rfl) ?_
                 rotate_left 1
                 · intro u
                   go_simp
                   try with_reducible rfl
                 simp only [Act.put, List.setIfInBounds_toArray, List.set_cons_zero, List.set_cons_succ])
              | (refine mv_free _ (Or.inr ⟨by rfl, rfl⟩) (rfl) ?_
                 simp only [Act.put, List.setIfInBounds_toArray, List.set_cons_zero, List.set_cons_succ])
          refine mv_step (fun K hK => ?_)
          go_simp
          refine hK.out _ _ _ (fun u hu => hu) (rfl) ?_
          clear hK K
          refine mv_step (fun K hK => ?_)
          go_simp
          refine hK.out _ _ _ (fun u hu => hu) (rfl) ?_
          clear hK K
          iterate 2
            first
              | (refine mv_free ?_ (Or.inl ⟨by rfl, ?_⟩) (rfl) ?_
                 rotate_left 1
                 · intro u
                   go_simp
                   try with_reducible rfl
                 simp only [Act.put, List.setIfInBounds_toArray, List.set_cons_zero, List.set_cons_succ])
              | (refine mv_free _ (Or.inr ⟨by rfl, rfl⟩) (rfl) ?_
                 simp only [Act.put, List.setIfInBounds_toArray, List.set_cons_zero, List.set_cons_succ])
          refine mv_done ?_
          go_wp2
          go_ret
          exact ⟨rfl, (((((HB.mk h1 ob1).set 3 (.int .i64 v) (by simp [gaC])).set 4 (.bool true) (by simp [gaC])).set 5 (.int .i64 0) (by simp [gaC])).is (show _ = gaC lo hi ra (gaA 0 v la) (gaB 0 false) (gaN 0 t) by simp [gaA, gaB, gaN, gaC])).fin rfl rfl rfl rfl⟩
        · have HD : decide ((if 1099511627775 < ra * t then 1099511627775 else ra * t) < (if v - la < 0 then -(v - la) else v - la)) = false := by simpa using HF.symm
          clear HF hF
          generalize (if 1099511627775 < ra * t then 1099511627775 else ra * t) = Q at *
          generalize (if v - la < 0 then -(v - la) else v - la) = D at *
          go_enter Try.func26, Try.ntmps26
          go_wp2_with fail
          refine (MS.out _ h).mono ?_
          rintro r w1 ⟨rfl, h1, ob1⟩
          obtain ⟨c0, f0⟩ := h1.one 0 rfl
          obtain ⟨c1, f1⟩ := h1.one 1 rfl
          obtain ⟨c2, f2⟩ := h1.one 2 rfl
          obtain ⟨c3, f3⟩ := h1.one 3 rfl
          obtain ⟨c4, f4⟩ := h1.one 4 rfl
          obtain ⟨c5, f5⟩ := h1.one 5 rfl
          go_wp2_with fail
          all_goals first | (exfalso; omega) | skip
          refine region_still [] [(.free, 0), (.free, 1), (.free, 2), (.take, 3), (.free, 4), (.free, 5), (.free, 6), (.free, 7), (.free, 8), (.take, 9), (.free, 10), (.free, 12), (.free, 13), (.free, 14), (.free, 15), (.take, 16), (.free, 17), (.free, 18), (.free, 19), (.take, 20), (.free, 21), (.step, 11), (.step, 22), (.free, 23), (.free, 24)] _ (by kernel_rfl) (by kernel_rfl) (by kernel_rfl) (by kernel_rfl) (by decide) rfl (fun _ _ _ _ _ h => h) ?_
          simp only [List.filterMap_cons, List.filterMap_nil, List.getElem?_toArray, List.getElem?_cons_zero, List.getElem?_cons_succ, Option.map_some]
          iterate 3
            first
              | (refine mv_free ?_ (Or.inl ⟨by rfl, ?_⟩) (rfl) ?_
                 rotate_left 1
                 · intro u
                   go_simp
                   try with_reducible rfl
                 simp only [Act.put, List.setIfInBounds_toArray, List.set_cons_zero, List.set_cons_succ])
              | (refine mv_free _ (Or.inr ⟨by rfl, rfl⟩) (rfl) ?_
                 simp only [Act.put, List.setIfInBounds_toArray, List.set_cons_zero, List.set_cons_succ])
          iterate 1
            first
              | (refine mv_take ?_ (Or.inl ⟨by rfl, ?_⟩) (rfl) ?_
                 rotate_left 1
                 · intro u hu
                   (try dsimp only at hu)
                   go_simp
                   try with_reducible rfl
                 simp only [Act.put, List.setIfInBounds_toArray, List.set_cons_zero, List.set_cons_succ])
              | (refine mv_take _ (Or.inr ⟨by rfl, rfl⟩) (rfl) ?_
                 simp only [Act.put, List.setIfInBounds_toArray, List.set_cons_zero, List.set_cons_succ])
          iterate 5
            first
              | (refine mv_free ?_ (Or.inl ⟨by rfl, ?_⟩) (rfl) ?_
                 rotate_left 1
                 · intro u
                   go_simp
                   try with_reducible rfl
                 simp only [Act.put, List.setIfInBounds_toArray, List.set_cons_zero, List.set_cons_succ])
              | (refine mv_free _ (Or.inr ⟨by rfl, rfl⟩) (rfl) ?_
                 simp only [Act.put, List.setIfInBounds_toArray, List.set_cons_zero, List.set_cons_succ])
          iterate 1
            first
              | (refine mv_take ?_ (Or.inl ⟨by rfl, ?_⟩) (rfl) ?_
                 rotate_left 1
                 · intro u hu
                   (try dsimp only at hu)
                   go_simp
                   try with_reducible rfl
                 simp only [Act.put, List.setIfInBounds_toArray, List.set_cons_zero, List.set_cons_succ])
              | (refine mv_take _ (Or.inr ⟨by rfl, rfl⟩) (rfl) ?_
                 simp only [Act.put, List.setIfInBounds_toArray, List.set_cons_zero, List.set_cons_succ])
          iterate 5
            first
              | (refine mv_free ?_ (Or.inl ⟨by rfl, ?_⟩) (rfl) ?_
                 rotate_left 1
                 · intro u
                   go_simp
                   try with_reducible rfl
                 simp only [Act.put, List.setIfInBounds_toArray, List.set_cons_zero, List.set_cons_succ])
              | (refine mv_free _ (Or.inr ⟨by rfl, rfl⟩) (rfl) ?_
                 simp only [Act.put, List.setIfInBounds_toArray, List.set_cons_zero, List.set_cons_succ])
          iterate 1
            first
              | (refine mv_take ?_ (Or.inl ⟨by rfl, ?_⟩) (rfl) ?_
                 rotate_left 1
                 · intro u hu
                   (try dsimp only at hu)
                   go_simp
                   try with_reducible rfl
                 simp only [Act.put, List.setIfInBounds_toArray, List.set_cons_zero, List.set_cons_succ])
              | (refine mv_take _ (Or.inr ⟨by rfl, rfl⟩) (rfl) ?_
                 simp only [Act.put, List.setIfInBounds_toArray, List.set_cons_zero, List.set_cons_succ])
          iterate 3
            first
              | (refine mv_free ?_ (Or.inl ⟨by rfl, ?_⟩) (rfl) ?_
                 rotate_left 1
                 · intro u
                   go_simp
                   try with_reducible rfl
                 simp only [Act.put, List.setIfInBounds_toArray, List.set_cons_zero, List.set_cons_succ])
              | (refine mv_free _ (Or.inr ⟨by rfl, rfl⟩) (rfl) ?_
                 simp only [Act.put, List.setIfInBounds_toArray, List.set_cons_zero, List.set_cons_succ])
          iterate 1
            first
              | (refine mv_take ?_ (Or.inl ⟨by rfl, ?_⟩) (rfl) ?_
                 rotate_left 1
                 · intro u hu
                   (try dsimp only at hu)
                   go_simp
                   try with_reducible rfl
                 simp only [Act.put, List.setIfInBounds_toArray, List.set_cons_zero, List.set_cons_succ])
              | (refine mv_take _ (Or.inr ⟨by rfl, rfl⟩) (rfl) ?_
                 simp only [Act.put, List.setIfInBounds_toArray, List.set_cons_zero, List.set_cons_succ])
          iterate 1
            first
              | (refine mv_free ?_ (Or.inl ⟨by rfl, ?_⟩) (rfl) ?_
                 rotate_left 1
                 · intro u
                   go_simp
                   try with_reducible rfl
                 simp only [Act.put, List.setIfInBounds_toArray, List.set_cons_zero, List.set_cons_succ])
              | (refine mv_free _ (Or.inr ⟨by rfl, rfl⟩) (rfl) ?_
                 simp only [Act.put, List.setIfInBounds_toArray, List.set_cons_zero, List.set_cons_succ])
          refine mv_step (fun K hK => ?_)
          go_simp
          refine (AB.out _).mono ?_
          rintro r w' ⟨rfl, rfl⟩
          go_wp2_with fail
          refine hK.out _ _ _ (fun u hu => hu) (rfl) ?_
          clear hK K
          refine mv_step (fun K hK => ?_)
          go_simp
          refine (CL.out _).mono ?_
          rintro r w' ⟨rfl, rfl⟩
          go_wp2_with fail
          refine hK.out _ _ _ (fun u hu => hu) (rfl) ?_
          clear hK K
          iterate 2
            first
              | (refine mv_free ?_ (Or.inl ⟨by rfl, ?_⟩) (rfl) ?_
                 rotate_left 1
                 · intro u
                   go_simp
                   try with_reducible rfl
                 simp only [Act.put, List.setIfInBounds_toArray, List.set_cons_zero, List.set_cons_succ])
              | (refine mv_free _ (Or.inr ⟨by rfl, rfl⟩) (rfl) ?_
                 simp only [Act.put, List.setIfInBounds_toArray, List.set_cons_zero, List.set_cons_succ])
          refine mv_done ?_
          go_wp2
          go_ret
          exact ⟨rfl, (((((HB.mk h1 ob1).set 3 (.int .i64 v) (by simp [gaC])).set 4 (.bool true) (by simp [gaC])).set 5 (.int .i64 0) (by simp [gaC])).is (show _ = gaC lo hi ra (gaA 0 v la) (gaB 0 true) (gaN 0 t) by simp [gaA, gaB, gaN, gaC])).fin rfl rfl rfl rfl⟩
      · have e : gaE lo hi ra la kn t v = 7 := by unfold gaE; rw [if_neg c1, if_neg c2, hF]; rfl
        rw [e]
        rw [hF] at HF
        cases kn
        · simp at HF
        · have HD : decide ((if 1099511627775 < ra * t then 1099511627775 else ra * t) < (if v - la < 0 then -(v - la) else v - la)) = true := by simpa using HF.symm
          clear HF hF
          generalize (if 1099511627775 < ra * t then 1099511627775 else ra * t) = Q at *
          generalize (if v - la < 0 then -(v - la) else v - la) = D at *
          go_enter Try.func26, Try.ntmps26
          go_wp2_with fail
          refine (MS.out _ h).mono ?_
          rintro r w1 ⟨rfl, h1, ob1⟩
          obtain ⟨c0, f0⟩ := h1.one 0 rfl
          obtain ⟨c1, f1⟩ := h1.one 1 rfl
          obtain ⟨c2, f2⟩ := h1.one 2 rfl
          obtain ⟨c3, f3⟩ := h1.one 3 rfl
          obtain ⟨c4, f4⟩ := h1.one 4 rfl
          obtain ⟨c5, f5⟩ := h1.one 5 rfl
          go_wp2_with fail
          all_goals first | (exfalso; omega) | skip
          refine region_still [] [(.free, 0), (.free, 1), (.free, 2), (.take, 3), (.free, 4), (.free, 5), (.free, 6), (.free, 7), (.free, 8), (.take, 9), (.free, 10), (.free, 12), (.free, 13), (.free, 14), (.free, 15), (.take, 16), (.free, 17), (.free, 18), (.free, 19), (.take, 20), (.free, 21), (.step, 11), (.step, 22), (.free, 23), (.free, 24)] _ (by kernel_rfl) (by kernel_rfl) (by kernel_rfl) (by kernel_rfl) (by decide) rfl (fun _ _ _ _ _ h => h) ?_
          simp only [List.filterMap_cons, List.filterMap_nil, List.getElem?_toArray, List.getElem?_cons_zero, List.getElem?_cons_succ, Option.map_some]
          iterate 3
            first
              | (refine mv_free ?_ (Or.inl ⟨by rfl, ?_⟩) (rfl) ?_
                 rotate_left 1
                 · intro u
                   go_simp
                   try with_reducible rfl
                 simp only [Act.put, List.setIfInBounds_toArray, List.set_cons_zero, List.set_cons_succ])
              | (refine mv_free _ (Or.inr ⟨by rfl, rfl⟩) (rfl) ?_
                 simp only [Act.put, List.setIfInBounds_toArray, List.set_cons_zero, List.set_cons_succ])
          iterate 1
            first
              | (refine mv_take ?_ (Or.inl ⟨by rfl, ?_⟩) (rfl) ?_
                 rotate_left 1
                 · intro u hu
                   (try dsimp only at hu)
                   go_simp
                   try with_reducible rfl
                 simp only [Act.put, List.setIfInBounds_toArray, List.set_cons_zero, List.set_cons_succ])
              | (refine mv_take _ (Or.inr ⟨by rfl, rfl⟩) (rfl) ?_
                 simp only [Act.put, List.setIfInBounds_toArray, List.set_cons_zero, List.set_cons_succ])
          iterate 5
            first
              | (refine mv_free ?_ (Or.inl ⟨by rfl, ?_⟩) (rfl) ?_
                 rotate_left 1
                 · intro u
                   go_simp
                   try with_reducible rfl
                 simp only [Act.put, List.setIfInBounds_toArray, List.set_cons_zero, List.set_cons_succ])
              | (refine mv_free _ (Or.inr ⟨by rfl, rfl⟩) (rfl) ?_
                 simp only [Act.put, List.setIfInBounds_toArray, List.set_cons_zero, List.set_cons_succ])
          iterate 1
            first
              | (refine mv_take ?_ (Or.inl ⟨by rfl, ?_⟩) (rfl) ?_
                 rotate_left 1
                 · intro u hu
                   (try dsimp only at hu)
                   go_simp
                   try with_reducible rfl
                 simp only [Act.put, List.setIfInBounds_toArray, List.set_cons_zero, List.set_cons_succ])
              | (refine mv_take _ (Or.inr ⟨by rfl, rfl⟩) (rfl) ?_
                 simp only [Act.put, List.setIfInBounds_toArray, List.set_cons_zero, List.set_cons_succ])
          iterate 5
            first
              | (refine mv_free ?_ (Or.inl ⟨by rfl, ?_⟩) (rfl) ?_
                 rotate_left 1
                 · intro u
                   go_simp
                   try with_reducible rfl
                 simp only [Act.put, List.setIfInBounds_toArray, List.set_cons_zero, List.set_cons_succ])
              | (refine mv_free _ (Or.inr ⟨by rfl, rfl⟩) (rfl) ?_
                 simp only [Act.put, List.setIfInBounds_toArray, List.set_cons_zero, List.set_cons_succ])
          iterate 1
            first
              | (refine mv_take ?_ (Or.inl ⟨by rfl, ?_⟩) (rfl) ?_
                 rotate_left 1
                 · intro u hu
                   (try dsimp only at hu)
                   go_simp
                   try with_reducible rfl
                 simp only [Act.put, List.setIfInBounds_toArray, List.set_cons_zero, List.set_cons_succ])
              | (refine mv_take _ (Or.inr ⟨by rfl, rfl⟩) (rfl) ?_
                 simp only [Act.put, List.setIfInBounds_toArray, List.set_cons_zero, List.set_cons_succ])
          iterate 3
            first
              | (refine mv_free ?_ (Or.inl ⟨by rfl, ?_⟩) (rfl) ?_
                 rotate_left 1
                 · intro u
                   go_simp
                   try with_reducible rfl
                 simp only [Act.put, List.setIfInBounds_toArray, List.set_cons_zero, List.set_cons_succ])
              | (refine mv_free _ (Or.inr ⟨by rfl, rfl⟩) (rfl) ?_
                 simp only [Act.put, List.setIfInBounds_toArray, List.set_cons_zero, List.set_cons_succ])
          iterate 1
            first
              | (refine mv_take ?_ (Or.inl ⟨by rfl, ?_⟩) (rfl) ?_
                 rotate_left 1
                 · intro u hu
                   (try dsimp only at hu)
                   go_simp
                   try with_reducible rfl
                 simp only [Act.put, List.setIfInBounds_toArray, List.set_cons_zero, List.set_cons_succ])
              | (refine mv_take _ (Or.inr ⟨by rfl, rfl⟩) (rfl) ?_
                 simp only [Act.put, List.setIfInBounds_toArray, List.set_cons_zero, List.set_cons_succ])
          iterate 1
            first
              | (refine mv_free ?_ (Or.inl ⟨by rfl, ?_⟩) (rfl) ?_
                 rotate_left 1
                 · intro u
                   go_simp
                   try with_reducible rfl
                 simp only [Act.put, List.setIfInBounds_toArray, List.set_cons_zero, List.set_cons_succ])
              | (refine mv_free _ (Or.inr ⟨by rfl, rfl⟩) (rfl) ?_
                 simp only [Act.put, List.setIfInBounds_toArray, List.set_cons_zero, List.set_cons_succ])
          refine mv_step (fun K hK => ?_)
          go_simp
          refine (AB.out _).mono ?_
          rintro r w' ⟨rfl, rfl⟩
          go_wp2_with fail
          refine hK.out _ _ _ (fun u hu => hu) (rfl) ?_
          clear hK K
          refine mv_step (fun K hK => ?_)
          go_simp
          refine (CL.out _).mono ?_
          rintro r w' ⟨rfl, rfl⟩
          go_wp2_with fail
          refine hK.out _ _ _ (fun u hu => hu) (rfl) ?_
          clear hK K
          iterate 2
            first
              | (refine mv_free ?_ (Or.inl ⟨by rfl, ?_⟩) (rfl) ?_
                 rotate_left 1
                 · intro u
                   go_simp
                   try with_reducible rfl
                 simp only [Act.put, List.setIfInBounds_toArray, List.set_cons_zero, List.set_cons_succ])
              | (refine mv_free _ (Or.inr ⟨by rfl, rfl⟩) (rfl) ?_
                 simp only [Act.put, List.setIfInBounds_toArray, List.set_cons_zero, List.set_cons_succ])
          refine mv_done ?_
          go_wp2
          go_ret
          exact ⟨rfl, ((HB.mk h1 ob1).is (show _ = gaC lo hi ra (gaA 7 v la) (gaB 7 true) (gaN 7 t) by simp [gaA, gaB, gaN])).fin rfl rfl rfl rfl⟩

set_option maxHeartbeats 4000000 in
theorem law_GateNew (lo hi ra v : Int) (w : World) :
    Calls Try.prog 3 #[.agg #[.int .i64 lo, .int .i64 hi, .int .i64 ra], .int .i64 v] w fun r w' => r = .returned (.bool true) ∧ Below w.heap.size w w' := by
  have hq0 := Held.new w [.int .i64 lo, .int .i64 hi, .int .i64 ra] 23
  have hb0 : Below w.heap.size w (w.alloc (.cells #[.int .i64 lo, .int .i64 hi, .int .i64 ra] 23)) := (Below.refl _ _).alloc (Nat.le_refl _) _
  have GR := Lib.hid (fun u => gright_any lo hi ra u)
  have CN := Lib.hid (fun u => gcheck_nil v u)
  cases hR : gaR lo hi ra
  · go_enter Try.func3, Try.ntmps3
    go_wp2_with fail
    refine (gnew_no lo hi ra _ hR).mono ?_
    rintro e w1 ⟨rfl, hb1⟩
    have hq1 := hq0.bel hb1
    have hb1 := hb0.trans (hb1.mono hb0.size)
    obtain ⟨q0, f0⟩ := hq1.one 0 rfl
    obtain ⟨q1, f1⟩ := hq1.one 1 rfl
    obtain ⟨q2, f2⟩ := hq1.one 2 rfl
    rw [hR] at GR
    go_wp2_with (first | (go_at_call 19; refine (gmiss_nil _).mono ?_; rintro e w1 ⟨rfl, rfl⟩) | (go_at_call 20; refine (greset_nil _).mono ?_; rintro e w1 ⟨rfl, rfl⟩) | (go_at_call 21; refine (glast_nil _).mono ?_; rintro e w1 ⟨rfl, rfl⟩) | (go_at_call 22; refine (CN.out _).mono ?_; rintro e w1 ⟨rfl, rfl⟩))
    refine (GR.out _).mono ?_
    rintro e w2 ⟨rfl, hb2⟩
    have hb2 := hb1.trans (hb2.mono hb1.size)
    go_wp2_with (go_at_call 24; refine (lives15 _).mono ?_; rintro e w1 ⟨rfl, hb3⟩)
    go_ret
    exact ⟨rfl, hb2.trans (hb3.mono hb2.size)⟩
  · go_enter Try.func3, Try.ntmps3
    go_wp2_with fail
    refine (gnew_ok lo hi ra _ hR).mono ?_
    rintro e w1 ⟨b, hb, rfl, k1, hb1⟩
    have hq1 := hq0.bel hb1
    have hb1 := hb0.trans (hb1.mono hb0.size)
    obtain ⟨q0, f0⟩ := hq1.one 0 rfl
    obtain ⟨q1, f1⟩ := hq1.one 1 rfl
    obtain ⟨q2, f2⟩ := hq1.one 2 rfl
    rw [hR] at GR
    go_wp2_with (first | (go_at_call 19; refine (gmiss_nil _).mono ?_; rintro e w1 ⟨rfl, rfl⟩) | (go_at_call 20; refine (greset_nil _).mono ?_; rintro e w1 ⟨rfl, rfl⟩) | (go_at_call 21; refine (glast_nil _).mono ?_; rintro e w1 ⟨rfl, rfl⟩) | (go_at_call 22; refine (CN.out _).mono ?_; rintro e w1 ⟨rfl, rfl⟩))
    refine (GR.out _).mono ?_
    rintro e w2 ⟨rfl, hb2⟩
    have k2 := k1.bel hb2
    have hb2 := hb1.trans (hb2.mono hb1.size)
    go_wp2_with fail
    refine (glast_any b _ k2).mono ?_
    rintro e w3 ⟨rfl, rfl⟩
    have hb3 := hb2.drew
    go_wp2_with (go_at_call 24; refine (lives15 _).mono ?_; rintro e w1 ⟨rfl, hb4⟩)
    go_ret
    exact ⟨rfl, hb3.trans (hb4.mono hb3.size)⟩
end Go.Proofs.Ytifbedliibhmoaa
