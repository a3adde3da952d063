/- The law MaintLasts; walked. -/
import Derived.Test.YtfejdbmamaggpaaDoorMaint6
import Derived.Test.YtfejdbmamaggpaaDoorMaint7
import Derived.DeepKeys
import Derived.Deep.CutBlock
import Derived.Deep.CutRange
namespace Go.Proofs.YtfejdbmamaggpaaDoor
open Go.ChangeShapes Go.WideShapes Go.ChangeAt Go.RowKit
set_option linter.unusedVariables false
set_option linter.unusedSimpArgs false
theorem info_int6 : ∃ i, Tryd.prog.info? 3 = some i := info_of_underlying Tryd.underlying3
theorem cel_int6 : Tryd.prog.cellsOf 3 = 1 := by kernel_rfl
theorem part_int6 (xs : Array Value) (off : Nat) (v : Value) (w : World) (h : xs[off]? = some v) : (part 3 xs off).run Tryd.prog w = .ok v w := run_part_plain w (by kernel_rfl) h
theorem eq_int6 (d : Nat) (x : Int) (w : World) : (Op.equalIn (d + 1) 3 (.int .i64 x) (.int .i64 x)).run Tryd.prog w = .ok true w := by
  rw [run_equalIn_int w d 3 .i64 .i64 x x Tryd.underlying3]
  simp
theorem teq6 (x0 x1 x2 x3 x4 x5 : Int) (w : World) : (Op.equalIn 10000 75 (.agg #[.int .i64 x0, .int .i64 x1, .int .i64 x2, .int .i64 x3, .int .i64 x4, .int .i64 x5]) (.agg #[.int .i64 x0, .int .i64 x1, .int .i64 x2, .int .i64 x3, .int .i64 x4, .int .i64 x5])).run Tryd.prog w = .ok true w := by
  obtain ⟨i, hi⟩ := info_int6
  have hc := cel_int6
  rw [show 10000 = 9999 + 1 from rfl, run_equalIn_array w 9999 _ _ Tryd.underlying75 hi, hc, show List.range 6 = [0, 1, 2, 3, 4, 5] from rfl]
  have p0 : (part 3 #[.int .i64 x0, .int .i64 x1, .int .i64 x2, .int .i64 x3, .int .i64 x4, .int .i64 x5] 0).run Tryd.prog w = .ok (.int .i64 x0) w := part_int6 _ _ _ w rfl
  have p1 : (part 3 #[.int .i64 x0, .int .i64 x1, .int .i64 x2, .int .i64 x3, .int .i64 x4, .int .i64 x5] 1).run Tryd.prog w = .ok (.int .i64 x1) w := part_int6 _ _ _ w rfl
  have p2 : (part 3 #[.int .i64 x0, .int .i64 x1, .int .i64 x2, .int .i64 x3, .int .i64 x4, .int .i64 x5] 2).run Tryd.prog w = .ok (.int .i64 x2) w := part_int6 _ _ _ w rfl
  have p3 : (part 3 #[.int .i64 x0, .int .i64 x1, .int .i64 x2, .int .i64 x3, .int .i64 x4, .int .i64 x5] 3).run Tryd.prog w = .ok (.int .i64 x3) w := part_int6 _ _ _ w rfl
  have p4 : (part 3 #[.int .i64 x0, .int .i64 x1, .int .i64 x2, .int .i64 x3, .int .i64 x4, .int .i64 x5] 4).run Tryd.prog w = .ok (.int .i64 x4) w := part_int6 _ _ _ w rfl
  have p5 : (part 3 #[.int .i64 x0, .int .i64 x1, .int .i64 x2, .int .i64 x3, .int .i64 x4, .int .i64 x5] 5).run Tryd.prog w = .ok (.int .i64 x5) w := part_int6 _ _ _ w rfl
  simp [Op.eqItems, p0, p1, p2, p3, p4, p5, eq_int6 9998]

def ps (Z : Int → Int) : Nat → Int
  | 0 => 0
  | k + 1 => ps Z k + Z (k : Int)
theorem ps6 (Z : Int → Int) : ps Z 6 = sum6 Z := by
  unfold sum6
  simp [ps]
theorem ps_bd {Z : Int → Int} (h : ∀ m, 0 ≤ Z m ∧ Z m ≤ 1001000000) : ∀ k : Nat, 0 ≤ ps Z k ∧ ps Z k ≤ 1001000000 * (k : Int)
  | 0 => by simp [ps]
  | k + 1 => by
    have := ps_bd h k
    have := h (k : Int)
    unfold ps
    omega
theorem ar_box (w : World) (Z : Int → Int) : ∃ V, V = w.alloc (.cells #[.int .i64 (Z 0), .int .i64 (Z 1), .int .i64 (Z 2), .int .i64 (Z 3), .int .i64 (Z 4), .int .i64 (Z 5)] 75) ∧ Below w.heap.size w V ∧ Held w.heap.size (a6 Z) V :=
  ⟨_, rfl, (Below.refl _ _).alloc (Nat.le_refl _) _, Held.new w (a6 Z) 75⟩
set_option maxRecDepth 100000 in
set_option maxHeartbeats 16000000 in
theorem law_MaintLasts (a : Option Addr) (n cap : Nat) (T C A : Nat → Int) (c e : Int) (w : World) (h : Pl w a n T C A) (hn : n ≤ maxLen) (hce : (-9223372036854775808 ≤ c ∧ c ≤ 9223372036854775807) ∧ (-9223372036854775808 ≤ e ∧ e ≤ 9223372036854775807)) : Calls Tryd.prog 11 #[.slice a n cap, .int .i64 c, .int .i64 e] w fun r w' => r = .returned (.bool true) ∧ Below w.heap.size w w' := by
  have LV := Lib.hid (fun u => lives49 u)
  have hw := Lib.hid (Below.refl w.heap.size w)
  have hn' : (n : Int) ≤ 9223372036854775807 := by unfold maxLen at hn; omega
  by_cases q1 : 100 < n
  · have y1 : decide ((100 : Int) < (n : Int)) = true := decide_eq_true (by omega)
    go_enter Tryd.func11, Tryd.ntmps11
    go_wp2_with fail
    refine (LV.out _).mono ?_
    rintro r u9 ⟨rfl, hb9⟩
    have hb8 := Lib.hid (show Below w.heap.size w u9 from hw.out.trans (hb9.mono hw.out.size))
    clear hb9
    go_wp2
    go_ret
    exact ⟨rfl, hb8.out⟩
  have y1 : decide ((100 : Int) < (n : Int)) = false := decide_eq_false (by omega)
  by_cases q2 : 1000000000 < e
  · have y2 : decide (1000000000 < e) = true := decide_eq_true q2
    go_enter Tryd.func11, Tryd.ntmps11
    go_wp2_with fail
    refine (LV.out _).mono ?_
    rintro r u9 ⟨rfl, hb9⟩
    have hb8 := Lib.hid (show Below w.heap.size w u9 from hw.out.trans (hb9.mono hw.out.size))
    clear hb9
    go_wp2
    go_ret
    exact ⟨rfl, hb8.out⟩
  have y2 : decide (1000000000 < e) = false := decide_eq_false q2
  by_cases q3 : e < -1000000000
  · have y3 : decide (e < -1000000000) = true := decide_eq_true q3
    go_enter Tryd.func11, Tryd.ntmps11
    go_wp2_with fail
    refine (LV.out _).mono ?_
    rintro r u9 ⟨rfl, hb9⟩
    have hb8 := Lib.hid (show Below w.heap.size w u9 from hw.out.trans (hb9.mono hw.out.size))
    clear hb9
    go_wp2
    go_ret
    exact ⟨rfl, hb8.out⟩
  have y3 : decide (e < -1000000000) = false := decide_eq_false q3
  have he : -1000000000 ≤ e ∧ e ≤ 1000000000 := by omega
  have n100 : n ≤ 100 := by omega
  obtain ⟨N, hN, hN1, hN2⟩ := stop_ex (brB T C A c) n
  obtain ⟨q, tF, aF, CF, ML, RL, Q0, Q1⟩ : ∃ (q : Nat) (tF aF : Nat → Int), ChF q tF aF ∧ (∀ u, Below w.heap.size w u → Calls Tryd.prog 47 #[.slice a n cap, .int .i64 c, .int .i64 e] u fun r w' => r = .returned (agg6 (lsZ tF aF q e)) ∧ Below u.heap.size u w') ∧ (∀ u, Below w.heap.size w u → Calls Tryd.prog 48 #[.slice a n cap, .int .i64 c, .int .i64 e] u fun r w' => r = .returned (agg6 (lsZ tF aF q e)) ∧ Below u.heap.size u w') ∧ (hmB c = false → q = 0) ∧ (hmB c = true → q = cnt T C A c N ∧ (∀ p, tF p = T (idx T C A c N p))) := by
    cases hm : hmB c with
    | false =>
      exact ⟨0, fun _ => 0, fun _ => 0, ⟨fun p hp => by omega, fun p hp => by omega, fun p hp => by omega⟩, fun u k => mlast a n cap c e 0 (fun _ => 0) (fun _ => 0) (fun _ => 0) u (fun v _ => (mchg_no a n cap c v hm).mono fun r w' ⟨h1, h2⟩ => ⟨_, h1, Sl.nil _ _ _ _ _, h2⟩) (by omega) (fun p hp => by omega) (fun p hp => by omega) (fun p hp => by omega) he, fun u k => rlast_no a n cap c e _ _ u hm, fun _ => rfl, fun h => by cases h⟩
    | true =>
      have CF := chf hm hN1
      have hq : cnt T C A c N ≤ 1000 := by have : cnt T C A c N ≤ N := grL_len T C A c N; omega
      exact ⟨cnt T C A c N, _, _, CF, fun u k => mlast a n cap c e _ _ (fun p => C (idx T C A c N p)) _ u (fun v kv => mchg a n cap T C A c N v (h.below (k.trans (kv.mono k.size))) (by omega) hm hN hN1 hN2) hq CF.a CF.t CF.m he, fun u k => rlast a n cap T C A c e N u (h.below k) (by omega) hm hN hN1 hN2 he, (fun h => by cases h), fun _ => ⟨rfl, fun p => rfl⟩⟩
  have HP := Lib.hid (fun u (k : Below w.heap.size w u) => h.below k)
  have RT := Lib.hid (fun k u => rtold (T k) (C k) (A k) u)
  have ZB := Lib.hid (show (∀ m, 0 ≤ lsZ tF aF q e m ∧ lsZ tF aF q e m ≤ 1001000000) ∧ sum6 (lsZ tF aF q e) = if q = 0 then 0 else max e (tF (q - 1)) - tF 0 by
    rcases Nat.eq_zero_or_pos q with z | z
    · have e0 : lsZ tF aF q e = fun _ => 0 := by funext m; rw [z]; unfold lsZ; rw [if_neg (by omega)]; rfl
      rw [e0, if_pos z]
      exact ⟨fun m => by show (0 : Int) ≤ 0 ∧ (0 : Int) ≤ 1001000000; omega, rfl⟩
    · obtain ⟨h1, h2⟩ := lsZ_ok e CF.a CF.m z
      have t0 := CF.t 0 z
      have t1 := CF.t (q - 1) (by omega)
      rw [if_neg (by omega)]
      exact ⟨fun m => by have := h1 m; omega, h2⟩)
  obtain ⟨Z, eZ⟩ : ∃ Z, lsZ tF aF q e = Z := ⟨_, rfl⟩
  rw [eZ] at ML RL ZB
  have PB := Lib.hid (ps_bd ZB.out.1)
  have P6 := Lib.hid (ps6 Z)
  rw [ZB.out.2] at P6
  have TQ := fun u => teq6 (Z 0) (Z 1) (Z 2) (Z 3) (Z 4) (Z 5) u
  unfold agg6 at ML RL
  obtain ⟨F1, eF1⟩ : ∃ F1, (if q = 0 then (-1 : Int) else tF 0) = F1 := ⟨_, rfl⟩
  obtain ⟨L1, eL1⟩ : ∃ L1, (if q = 0 then (-1 : Int) else tF (q - 1)) = L1 := ⟨_, rfl⟩
  have EF1 := Lib.hid eF1
  have EL1 := Lib.hid eL1
  have ML := Lib.hid (ML w hw.out)
  replace RL := Lib.hid RL
  have CF := Lib.hid CF
  replace Q0 := Lib.hid Q0
  replace Q1 := Lib.hid Q1
  replace hN1 := Lib.hid hN1
  replace hN2 := Lib.hid hN2
  clear h hn eZ eF1 eL1 q1 q2 q3
  go_enter Tryd.func11, Tryd.ntmps11
  go_wp2_with fail
  refine ML.out.mono ?_
  rintro r u1 ⟨rfl, hb⟩
  have h1 := Lib.hid (show Below w.heap.size w u1 from hb)
  clear hb ML
  obtain ⟨V, eV, hbV, hA⟩ := ar_box u1 Z
  obtain ⟨B, eB⟩ : ∃ B, u1.heap.size = B := ⟨_, rfl⟩
  rw [eB] at hA
  have hV := Lib.hid (show Below w.heap.size w V from h1.out.trans (hbV.mono h1.out.size))
  replace eV := Lib.hid eV
  clear hbV
  have x0 := (hA.one 0 rfl).1
  have x1 := (hA.one 1 rfl).1
  have x2 := (hA.one 2 rfl).1
  have x3 := (hA.one 3 rfl).1
  have x4 := (hA.one 4 rfl).1
  have x5 := (hA.one 5 rfl).1
  have hA := Lib.hid hA
  have hVd := Lib.hid (show Below w.heap.size w V.drew from hV.out.drew)
  have RLd := Lib.hid (RL.out V.drew hVd.out)
  clear RL y1 y2 y3
  go_upto_region 4 with (fail)
  try rw [eB]
  rw [← eV.out]
  refine region_moves (fun y => y.cell? ⟨B, 0, none⟩ = some (.int .i64 (Z 0)) ∧ y.cell? ⟨B, 1, none⟩ = some (.int .i64 (Z 1)) ∧ y.cell? ⟨B, 2, none⟩ = some (.int .i64 (Z 2)) ∧ y.cell? ⟨B, 3, none⟩ = some (.int .i64 (Z 3)) ∧ y.cell? ⟨B, 4, none⟩ = some (.int .i64 (Z 4)) ∧ y.cell? ⟨B, 5, none⟩ = some (.int .i64 (Z 5))) [] [(.take, 0), (.free, 1), (.free, 2), (.free, 3), (.step, 4), (.free, 5)] _ (by kernel_rfl) (by kernel_rfl) (by kernel_rfl) (by kernel_rfl) (by decide) rfl (fun _ _ _ _ _ h => h) ?_
  simp only [List.filterMap_cons, List.filterMap_nil, List.getElem?_toArray, List.getElem?_cons_zero, List.getElem?_cons_succ, Option.map_some]
  iterate 1
    first
      | (refine mv_take ?_ (Or.inl ⟨by rfl, ?_⟩) (⟨x0, x1, x2, x3, x4, x5⟩) ?_
         rotate_left 1
         · intro u hu
           (try dsimp only at hu)
           go_simp
           try with_reducible rfl
         simp only [Act.put, List.setIfInBounds_toArray, List.set_cons_zero, List.set_cons_succ])
      | (refine mv_take _ (Or.inr ⟨by rfl, rfl⟩) (⟨x0, x1, x2, x3, x4, x5⟩) ?_
         simp only [Act.put, List.setIfInBounds_toArray, List.set_cons_zero, List.set_cons_succ])
  iterate 3
    first
      | (refine mv_free ?_ (Or.inl ⟨by rfl, ?_⟩) (⟨x0, x1, x2, x3, x4, x5⟩) ?_
         rotate_left 1
         · intro u
           go_simp
           try simp only [d1]
           try simp only [d2]
           try simp only [d3]
           try with_reducible rfl
         simp only [Act.put, List.setIfInBounds_toArray, List.set_cons_zero, List.set_cons_succ])
      | (refine mv_free _ (Or.inr ⟨by rfl, rfl⟩) (⟨x0, x1, x2, x3, x4, x5⟩) ?_
         simp only [Act.put, List.setIfInBounds_toArray, List.set_cons_zero, List.set_cons_succ])
  refine mv_step (fun K hK => ?_)
  go_simp
  refine RLd.out.mono ?_
  rintro r u2 ⟨rfl, hb⟩
  have hA2 := Lib.hid (show Held B (a6 Z) u2 from hA.out.drew.bel hb)
  have h2 := Lib.hid (show Below w.heap.size w u2 from hVd.out.trans (hb.mono hVd.out.size))
  clear hb RLd hA x0 x1 x2 x3 x4 x5
  have x0 := (hA2.out.one 0 rfl).1
  have x1 := (hA2.out.one 1 rfl).1
  have x2 := (hA2.out.one 2 rfl).1
  have x3 := (hA2.out.one 3 rfl).1
  have x4 := (hA2.out.one 4 rfl).1
  have x5 := (hA2.out.one 5 rfl).1
  go_wp2_with fail
  refine hK.out _ _ _ (fun y hy => hy) (⟨x0, x1, x2, x3, x4, x5⟩) ?_
  clear hK K
  iterate 1
    first
      | (refine mv_free ?_ (Or.inl ⟨by rfl, ?_⟩) (⟨x0, x1, x2, x3, x4, x5⟩) ?_
         rotate_left 1
         · intro u
           go_simp
           try simp only [d1]
           try simp only [d2]
           try simp only [d3]
           try with_reducible rfl
         simp only [Act.put, List.setIfInBounds_toArray, List.set_cons_zero, List.set_cons_succ])
      | (refine mv_free _ (Or.inr ⟨by rfl, rfl⟩) (⟨x0, x1, x2, x3, x4, x5⟩) ?_
         simp only [Act.put, List.setIfInBounds_toArray, List.set_cons_zero, List.set_cons_succ])
  refine mv_done ?_
  clear x0 x1 x2 x3 x4 x5
  go_upto_block 0 with (fail)
  go_cut [8, 9] from 11 (fun f l v => f = .int .i64 F1 ∧ l = .int .i64 L1 ∧ Hid (Below u2.heap.size u2 v))
  case first =>
    clear LV P6 PB ZB TQ hA2
    cases hm : hmB c with
    | false =>
      have q0 := Q0.out hm
      have f1 : F1 = -1 := by rw [← EF1.out, if_pos q0]
      have l1 : L1 = -1 := by rw [← EL1.out, if_pos q0]
      have CT := Lib.hid (show ∀ k, C k = c → c < 10 ∨ tdB (T k) (C k) (A k) = false from fun k hk => by
        rcases Int.lt_or_le c 10 with z | z
        · exact .inl z
        · refine .inr ?_
          unfold tdB
          have : nmB (C k) = false := decide_eq_false (by
            unfold hmB at hm
            rw [Bool.or_eq_false_iff, beq_eq_false_iff_ne, beq_eq_false_iff_ne] at hm
            omega)
          rw [this]; rfl)
      subst f1 l1
      clear hm q0
      go_wp2_with fail
      go_loopw [8, 9, 11] (fun f l i v => ∃ k : Nat, k ≤ n ∧ f = .int .i64 (-1) ∧ l = .int .i64 (-1) ∧ i = .int .i64 (k : Int) ∧ Hid (Below u2.heap.size u2 v)) (fun _ _ i _ => n - (intOf i).toNat)
      case atStart => exact ⟨0, by omega, rfl, rfl, rfl, Lib.hid (Below.refl _ _)⟩
      case round =>
        obtain ⟨k, hk, rfl, rfl, rfl, hb⟩ := hrel
        generalize wr = v at *
        by_cases hlt : k < n
        · obtain ⟨b, off, ea, hbb, p0, p1, p2⟩ := (HP.out v (h2.out.trans (hb.out.mono h2.out.size))).at hlt
          subst ea
          have j1 : (k : Int) < (n : Int) := by omega
          have j2 : IntKind.i64.wrap ((k : Int) + 1) = (k : Int) + 1 := by rw [IntKind.wrap_i64]; omega
          have j3 : 0 ≤ (k : Int) := by omega
          by_cases zc : C k = c
          rotate_left
          · have y : (C k != c) = true := by simp [zc]
            clear zc
            go_wp2
            go_roundw
            case rel => exact ⟨k + 1, by omega, rfl, rfl, by first | rfl | go_num, hb⟩
            case measure => simp [intOf]; omega
          have y : (C k != c) = false := by simp [zc]
          have RPk := RT.out k v
          have CTk := CT.out k zc
          obtain ⟨r, er⟩ : ∃ r, tdB (T k) (C k) (A k) = r := ⟨_, rfl⟩
          rw [er] at RPk CTk
          replace RPk := Lib.hid RPk
          clear zc er
          cases r
          · go_wp2_with fail
            refine RPk.out.mono ?_
            rintro r u3 ⟨rfl, hb2⟩
            have hb3 := Lib.hid (show Below u2.heap.size u2 u3 from hb.out.trans (hb2.mono hb.out.size))
            clear hb2 RPk
            go_wp2
            go_roundw
            case rel => exact ⟨k + 1, by omega, rfl, rfl, by first | rfl | go_num, hb3⟩
            case measure => simp [intOf]; omega
          · have y9 : decide (c < 10) = true := decide_eq_true (CTk.resolve_right (by simp))
            go_wp2_with fail
            refine RPk.out.mono ?_
            rintro r u3 ⟨rfl, hb2⟩
            have hb3 := Lib.hid (show Below u2.heap.size u2 u3 from hb.out.trans (hb2.mono hb.out.size))
            clear hb2 RPk
            go_wp2
            go_roundw
            case rel => exact ⟨k + 1, by omega, rfl, rfl, by first | rfl | go_num, hb3⟩
            case measure => simp [intOf]; omega
        · obtain rfl : k = n := by omega
          have j1 : ¬ (k : Int) < (k : Int) := by omega
          go_wp2_with fail
          go_meet
          case rel => exact ⟨rfl, rfl, hb⟩
    | true =>
      obtain ⟨eq, eT⟩ := Q1.out hm
      have EQ := Lib.hid eq
      have ET := Lib.hid eT
      have hm2 := Lib.hid hm
      have y9 : decide (c < 10) = false := decide_eq_false (by
        unfold hmB at hm
        rw [Bool.or_eq_true, beq_iff_eq, beq_iff_eq] at hm
        omega)
      obtain ⟨FI, eFI⟩ : ∃ FI : Nat → Int, ∀ j, FI j = if j = 0 then -1 else tF 0 := ⟨fun j => if j = 0 then -1 else tF 0, fun _ => rfl⟩
      obtain ⟨LA, eLA⟩ : ∃ LA : Nat → Int, ∀ j, LA j = if j = 0 then -1 else tF (j - 1) := ⟨fun j => if j = 0 then -1 else tF (j - 1), fun _ => rfl⟩
      replace eFI := Lib.hid eFI
      replace eLA := Lib.hid eLA
      have FE := Lib.hid (show FI (cnt T C A c N) = F1 ∧ LA (cnt T C A c N) = L1 by rw [eFI.out, eLA.out, ← EQ.out]; exact ⟨EF1.out, EL1.out⟩)
      have CQ := Lib.hid (show ∀ k, k ≤ N → cnt T C A c k ≤ cnt T C A c N from fun k hk => by
        obtain ⟨d, rfl⟩ : ∃ d, N = k + d := ⟨N - k, by omega⟩
        exact cnt_mono T C A c k d)
      rw [eq] at CF
      clear eq eT hm EF1 EL1
      go_wp2_with fail
      go_loopw [8, 9, 11] (fun f l i v => ∃ k : Nat, k ≤ N ∧ f = .int .i64 (FI (cnt T C A c k)) ∧ l = .int .i64 (LA (cnt T C A c k)) ∧ i = .int .i64 (k : Int) ∧ Hid (Below u2.heap.size u2 v)) (fun _ _ i _ => n - (intOf i).toNat)
      case atStart => exact ⟨0, by omega, by rw [eFI.out]; rfl, by rw [eLA.out]; rfl, rfl, Lib.hid (Below.refl _ _)⟩
      case round =>
        obtain ⟨k, hk, rfl, rfl, rfl, hb⟩ := hrel
        generalize wr = v at *
        have hjq := CQ.out k hk
        by_cases hlt : k < n
        · obtain ⟨b, off, ea, hbb, p0, p1, p2⟩ := (HP.out v (h2.out.trans (hb.out.mono h2.out.size))).at hlt
          subst ea
          have j1 : (k : Int) < (n : Int) := by omega
          have j2 : IntKind.i64.wrap ((k : Int) + 1) = (k : Int) + 1 := by rw [IntKind.wrap_i64]; omega
          have j3 : 0 ≤ (k : Int) := by omega
          have GD := Lib.hid (show gdB T C A c k = (decide (C k = c) && rpB (T k) (C k) (A k)) from rfl)
          have KN := Lib.hid (fun (hg : gdB T C A c k = false) => show k < N by
            rcases Nat.lt_or_ge k N with q | q
            · exact q
            · have e : k = N := by omega
              rcases hN2.out with r | r
              · omega
              · rw [← e] at r; unfold brB at r; rw [hg] at r; simp at r)
          obtain ⟨j, ej⟩ : ∃ j, cnt T C A c k = j := ⟨_, rfl⟩
          have EJ := Lib.hid ej
          rw [ej] at hjq ⊢
          by_cases zc : C k = c
          rotate_left
          · have y : (C k != c) = true := by simp [zc]
            have hg : gdB T C A c k = false := by rw [GD.out, decide_eq_false zc]; rfl
            have hc := Lib.hid (cnt_no hg)
            rw [ej] at hc
            have hkN := KN.out hg
            clear hg GD KN zc ej
            go_wp2
            go_roundw
            case rel => exact ⟨k + 1, by omega, by rw [hc.out], by rw [hc.out], by first | rfl | go_num, hb⟩
            case measure => simp [intOf]; omega
          have y : (C k != c) = false := by simp [zc]
          have RPk := RT.out k v
          rw [td_rp (show hmB (C k) = true by rw [zc]; exact hm2.out)] at RPk
          obtain ⟨r, er⟩ : ∃ r, rpB (T k) (C k) (A k) = r := ⟨_, rfl⟩
          rw [er] at RPk GD
          replace RPk := Lib.hid RPk
          rw [decide_eq_true zc, Bool.true_and] at GD
          clear er
          cases r
          · have hg := GD.out
            have hc := Lib.hid (cnt_no hg)
            rw [ej] at hc
            have hkN := KN.out hg
            clear hg GD KN zc ej
            go_wp2_with fail
            refine RPk.out.mono ?_
            rintro r u3 ⟨rfl, hb2⟩
            have hb3 := Lib.hid (show Below u2.heap.size u2 u3 from hb.out.trans (hb2.mono hb.out.size))
            clear hb2 RPk
            go_wp2
            go_roundw
            case rel => exact ⟨k + 1, by omega, by rw [hc.out], by rw [hc.out], by first | rfl | go_num, hb3⟩
            case measure => simp [intOf]; omega
          have hg := Lib.hid GD.out
          have hc := Lib.hid (cnt_yes hg.out)
          have PRE := Lib.hid (fun p (hp : p < cnt T C A c k) => (show idx T C A c N p = idx T C A c k p by
            have := idx_pre (T := T) (C := C) (A := A) (c := c) (N := k) (N - k) hp
            rwa [show k + (N - k) = N by omega] at this))
          have BR := Lib.hid (show brB T C A c k = (gdB T C A c k && decide (0 < cnt T C A c k) && decide (T k < T (idx T C A c k (cnt T C A c k - 1)))) from rfl)
          have IDX := Lib.hid (fun (q : k < N) => idx_at hg.out q)
          rw [ej] at hc PRE BR IDX
          rw [hg.out] at BR
          have VAL := Lib.hid (fun (r : k < N) => (show tF j = T k by rw [ET.out, IDX.out r]))
          have EVB := (gd_rp hm2.out hg.out).1
          clear GD KN zc ej hg
          have hwb := Lib.hid (show ∀ u3, Below v.heap.size v u3 → Hid (Below u2.heap.size u2 u3) ∧ u3.cell? ⟨b, off + k * 3, none⟩ = some (.int .i64 (T k)) from fun u3 hb2 => ⟨Lib.hid (hb.out.trans (hb2.mono hb.out.size)), (bc hb2 hbb).trans p0⟩)
          clear hb
          rcases Nat.eq_zero_or_pos j with z | z
          · subst z
            have hkN := Lib.hid (show k < N by
              rcases Nat.lt_or_ge k N with r | r
              · exact r
              · have e : k = N := by omega
                rcases hN2.out with s | s
                · omega
                · rw [← e, BR.out] at s; simp at s)
            have m0 : FI 0 = -1 := by rw [eFI.out]; rfl
            have s0 : LA 0 = -1 := by rw [eLA.out]; rfl
            have m1 := Lib.hid (show FI (0 + 1) = T k by rw [eFI.out]; exact VAL.out hkN.out)
            have s1 := Lib.hid (show LA (0 + 1) = T k by rw [eLA.out]; exact VAL.out hkN.out)
            rw [m0, s0]
            clear m0 s0
            have n0 : decide ((0 : Int) ≤ -1) = false := by decide
            go_wp2_with fail
            refine RPk.out.mono ?_
            rintro r u3 ⟨rfl, hb2⟩
            obtain ⟨hb3, p0⟩ := hwb.out u3 hb2
            clear hb2 RPk hwb
            go_wp2
            go_roundw
            case rel => exact ⟨k + 1, by have := hkN.out; omega, by rw [hc.out, m1.out], by rw [hc.out, s1.out], by first | rfl | go_num, hb3⟩
            case measure => simp [intOf]; omega
          · have hS := CF.out.t (j - 1) (by omega)
            have hF := CF.out.t 0 (by omega)
            obtain ⟨S1, eS1⟩ : ∃ z, tF (j - 1) = z := ⟨_, rfl⟩
            obtain ⟨G1, eG1⟩ : ∃ z, tF 0 = z := ⟨_, rfl⟩
            rw [eS1] at hS
            rw [eG1] at hF
            have m0 : FI j = G1 := by rw [eFI.out, if_neg (by omega)]; exact eG1
            have s0 : LA j = S1 := by rw [eLA.out, if_neg (by omega)]; exact eS1
            have BR := Lib.hid (show brB T C A c k = decide (T k < S1) by
              rw [BR.out, decide_eq_true z, ← PRE.out (j - 1) (by omega), ← eS1, ET.out]; rfl)
            have n0 : decide (0 ≤ S1) = true := decide_eq_true hS.1
            have n2 : decide (G1 < 0) = false := decide_eq_false (by omega)
            have n3 : ¬ G1 < 0 := by omega
            by_cases zz : T k < S1
            · have n1 : decide (T k < S1) = true := decide_eq_true zz
              have hkN : k = N := by
                rcases Nat.lt_or_ge k N with r | r
                · have := hN1.out k r; rw [BR.out, n1] at this; cases this
                · omega
              have FEj := FE.out
              rw [← hkN, EJ.out, m0, s0] at FEj
              replace FEj := Lib.hid FEj
              clear hkN
              rw [m0, s0]
              clear m0 s0
              go_wp2_with fail
              refine RPk.out.mono ?_
              rintro r u3 ⟨rfl, hb2⟩
              obtain ⟨hb3, p0⟩ := hwb.out u3 hb2
              clear hb2 RPk hwb
              go_wp2_with fail
              go_meet
              case rel => exact ⟨by rw [FEj.out.1], by rw [FEj.out.2], hb3⟩
            · have n1 : decide (T k < S1) = false := decide_eq_false zz
              have hkN := Lib.hid (show k < N by
                rcases Nat.lt_or_ge k N with r | r
                · exact r
                · have e : k = N := by omega
                  rcases hN2.out with s | s
                  · omega
                  · rw [← e, BR.out, n1] at s; cases s)
              have m1 := Lib.hid (show FI (j + 1) = G1 by rw [eFI.out, if_neg (by omega)]; exact eG1)
              have s1 := Lib.hid (show LA (j + 1) = T k by rw [eLA.out, if_neg (by omega)]; exact VAL.out hkN.out)
              rw [m0, s0]
              clear m0 s0 zz
              go_wp2_with fail
              refine RPk.out.mono ?_
              rintro r u3 ⟨rfl, hb2⟩
              obtain ⟨hb3, p0⟩ := hwb.out u3 hb2
              clear hb2 RPk hwb
              go_wp2
              go_roundw
              case rel => exact ⟨k + 1, by have := hkN.out; omega, by rw [hc.out, m1.out], by rw [hc.out, s1.out], by first | rfl | go_num, hb3⟩
              case measure => simp [intOf]; omega
        · obtain rfl : k = n := by omega
          have hkN : k = N := by omega
          have j1 : ¬ (k : Int) < (k : Int) := by omega
          have FEj := FE.out
          rw [← hkN] at FEj
          replace FEj := Lib.hid FEj
          clear hkN hjq
          go_wp2_with fail
          go_meet
          case rel => exact ⟨by rw [FEj.out.1], by rw [FEj.out.2], hb⟩
  case rest =>
    obtain ⟨rfl, rfl, kc⟩ := hcut
    have hc := Lib.hid (show Below w.heap.size w wc from h2.out.trans (kc.out.mono h2.out.size))
    have hA := Lib.hid (hA2.out.bel kc.out)
    clear hA2 kc RT HP Q0 Q1 hN1 hN2
    have ZZ := Lib.hid ZB.out.1
    clear ZB
    go_wp2_with fail
    go_loopw [10, 12] (fun s i v => ∃ k : Nat, k ≤ 6 ∧ s = .int .i64 (ps Z k) ∧ i = .int .i64 (k : Int) ∧ v = wc) (fun _ i _ => 6 - (intOf i).toNat)
    case atStart => exact ⟨0, by omega, rfl, rfl, rfl⟩
    case round =>
      obtain ⟨k, hk, rfl, rfl, rfl⟩ := hrel
      by_cases hlt : k < 6
      · have j1 : (k : Int) < 6 := by omega
        have j2 : IntKind.i64.wrap ((k : Int) + 1) = (k : Int) + 1 := by rw [IntKind.wrap_i64]; omega
        have j3 : 0 ≤ (k : Int) := by omega
        have x0 := (hA.out.one k (a6_at Z hlt)).1
        have zb := ZZ.out (k : Int)
        have pb := PB.out k
        have PS := Lib.hid (show ps Z (k + 1) = ps Z k + Z (k : Int) from rfl)
        obtain ⟨zk, ezk⟩ : ∃ z, Z (k : Int) = z := ⟨_, rfl⟩
        obtain ⟨pk, epk⟩ : ∃ z, ps Z k = z := ⟨_, rfl⟩
        rw [ezk] at x0 zb PS
        rw [epk] at pb PS ⊢
        clear ezk epk
        have n0 : decide (zk < 0) = false := decide_eq_false (by omega)
        have n1 : ¬ zk < 0 := by omega
        have w1 : IntKind.i64.wrap (pk + zk) = pk + zk := by rw [IntKind.wrap_i64]; omega
        go_wp2
        go_roundw
        case rel => exact ⟨k + 1, by omega, by rw [PS.out], by first | rfl | go_num, by first | rfl | trivial⟩
        case measure => simp [intOf]; omega
      · obtain rfl : k = 6 := by omega
        rw [P6.out]
        rcases Nat.eq_zero_or_pos q with z | z
        · have f1 : F1 = -1 := by rw [← EF1.out, if_pos z]
          rw [if_pos z, f1]
          clear z f1
          go_wp2_with fail
          refine (LV.out _).mono ?_
          rintro r u9 ⟨rfl, hb9⟩
          have hb8 := Lib.hid (show Below w.heap.size w u9 from hc.out.trans (hb9.mono hc.out.size))
          clear hb9
          go_wp2
          go_ret
          exact ⟨rfl, hb8.out⟩
        · have t0 := CF.out.t 0 z
          have t1 := CF.out.t (q - 1) (by omega)
          have f1 : F1 = tF 0 := by rw [← EF1.out, if_neg (by omega)]
          have l1 : L1 = tF (q - 1) := by rw [← EL1.out, if_neg (by omega)]
          rw [← f1] at t0
          rw [← l1] at t1
          rw [if_neg (by omega), ← f1, ← l1]
          have n0 : decide (F1 < 0) = false := decide_eq_false (by omega)
          have n1 : ¬ F1 < 0 := by omega
          obtain ⟨MX, eMX⟩ : ∃ z, max e L1 = z := ⟨_, rfl⟩
          rw [eMX]
          have hM : (if e < L1 then L1 else e) = MX := by rw [← eMX]; split <;> omega
          have w1 : IntKind.i64.wrap (MX - F1) = MX - F1 := by rw [IntKind.wrap_i64]; omega
          have r1 : (MX - F1 == MX - F1) = true := by simp
          clear z f1 l1 eMX
          go_wp2_with fail
          refine (LV.out _).mono ?_
          rintro r u9 ⟨rfl, hb9⟩
          have hb8 := Lib.hid (show Below w.heap.size w u9 from hc.out.trans (hb9.mono hc.out.size))
          clear hb9
          go_wp2
          go_ret
          exact ⟨rfl, hb8.out⟩
end Go.Proofs.YtfejdbmamaggpaaDoor
