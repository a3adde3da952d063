/- The document's Parse of a message; walked. -/
import Derived.Test.YtfejdbmamaggpaaDoorMaint18
namespace Go.Proofs.YtfejdbmamaggpaaDoor
open Go.ChangeShapes Go.WideShapes Go.ChangeAt Go.RowKit
set_option linter.unusedVariables false
set_option linter.unusedSimpArgs false
set_option maxRecDepth 100000 in
set_option maxHeartbeats 16000000 in
theorem rpars (s : ByteArray) (hs : s.size ≤ 300) (w : World) : Calls Tryd.prog 40 #[.string s] w fun e w' => ∃ t c a ok, e = .returned (.tuple #[.agg #[.int .i64 t, .int .i64 c, .int .i64 a], .bool ok]) ∧ PsR s t c a ok ∧ Below w.heap.size w w' := by
  obtain ⟨V, eV, hbV, hO⟩ := z3_box w
  have HW := Lib.hid (fun x (k : Below V.heap.size V x) => (hbV.trans (k.mono hbV.size) : Below w.heap.size w x))
  obtain ⟨B, eB⟩ : ∃ B, w.heap.size = B := ⟨_, rfl⟩
  rw [eB] at hO hbV
  have hBV : B < V.heap.size := hO.lt
  have HQ := Lib.hid (fun x (k : Below V.heap.size V x) => hO.below k hBV)
  have CO := Lib.hid (fun x => rcodes x)
  have LN := Lib.hid (fun t c a x => rlinE t c a x)
  obtain ⟨R, eR⟩ : ∃ R, nmR s = R := ⟨_, rfl⟩
  have ER := Lib.hid eR
  have PR := Lib.hid (fun h => ps_ref (s := s) h)
  rw [eR] at PR
  have ST := Lib.hid (show rdD 9 0 (s.data.toList.drop 1) = R from eR)
  replace eV := Lib.hid eV
  have hs3 : (s.size : Int) ≤ 300 := by omega
  clear hbV hO hBV eR
  go_enter Tryd.func40, Tryd.ntmps40
  go_upto_region 1 with (fail)
  try rw [eB]
  rw [← eV.out]
  go_upto_block 0 with (fail)
  go_cut [4] from 5 (fun n v => n = .int .i64 (R : Int) ∧ v = V)
  case first =>
    clear LN CO PR HQ HW
    go_wp2_with fail
    go_loopw [4, 5] (fun n p v => ∃ (m k : Nat), k ≤ 9 ∧ n = .int .i64 (m : Int) ∧ p = .int .i64 ((1 + k : Nat) : Int) ∧ v = V ∧ Hid (rdD (9 - k) m (s.data.toList.drop (1 + k)) = R) ∧ Hid (m < 10 ^ k)) (fun _ p _ => 20 - (intOf p).toNat)
    case atStart => exact ⟨0, 0, by omega, rfl, rfl, rfl, ST, Lib.hid (by decide)⟩
    case round =>
      obtain ⟨m, k, hk, rfl, rfl, rfl, hR, hm⟩ := hrel
      have mb : m ≤ 1000000000 := by
        have h1 := hm.out
        have h2 : (10 : Nat) ^ k ≤ 10 ^ 9 := Nat.pow_le_pow_right (by decide) hk
        have h3 : (10 : Nat) ^ 9 = 1000000000 := by decide
        omega
      obtain ⟨p, ep⟩ : ∃ p, 1 + k = p := ⟨_, rfl⟩
      rw [ep] at hR ⊢
      have EXT := fun (h : rdD (9 - k) m (s.data.toList.drop p) = m) => (show m = R from h.symm.trans hR.out)
      by_cases q1 : p < s.size
      rotate_left
      · have y1 : ¬ (p : Int) < (s.size : Int) := by omega
        have y2 : decide ((p : Int) < (s.size : Int)) = false := decide_eq_false y1
        have hE := EXT (by rw [drop_end s p (by omega)]; exact rdD_nil _ _)
        subst hE
        clear EXT
        go_wp2_with fail
        go_meet
        case rel => exact ⟨rfl, rfl⟩
      have y1 : (p : Int) < (s.size : Int) := by omega
      have y2 : decide ((p : Int) < (s.size : Int)) = true := decide_eq_true y1
      have IX := fun u => ix_at s p q1 u
      have DR := drop_at s p q1
      obtain ⟨b, eb⟩ : ∃ b, s[p] = b := ⟨_, rfl⟩
      rw [eb] at IX DR
      clear eb
      obtain ⟨bn, ebn⟩ : ∃ x, b.toNat = x := ⟨_, rfl⟩
      rw [ebn] at IX
      have bl : bn < 256 := by rw [← ebn]; exact UInt8.toNat_lt b
      by_cases q2 : p < 10
      rotate_left
      · have y3 : ¬ (p : Int) < 10 := by omega
        have y4 : decide ((p : Int) < 10) = false := decide_eq_false y3
        have hE := EXT (by rw [show 9 - k = 0 by omega]; rfl)
        subst hE
        clear EXT IX
        go_wp2_with fail
        go_meet
        case rel => exact ⟨rfl, rfl⟩
      have y3 : (p : Int) < 10 := by omega
      have y4 : decide ((p : Int) < 10) = true := decide_eq_true y3
      by_cases q3 : 48 ≤ bn
      rotate_left
      · have y5 : ¬ (48 : Int) ≤ (bn : Int) := by omega
        have y6 : decide ((48 : Int) ≤ (bn : Int)) = false := decide_eq_false y5
        have hE := EXT (by rw [DR]; exact rdD_stop _ _ _ _ (by unfold isD; rw [ebn, decide_eq_false q3]; rfl))
        subst hE
        clear EXT DR ebn
        go_wp2_with fail
        go_meet
        case rel => exact ⟨rfl, rfl⟩
      have y5 : (48 : Int) ≤ (bn : Int) := by omega
      have y6 : decide ((48 : Int) ≤ (bn : Int)) = true := decide_eq_true y5
      by_cases q4 : bn ≤ 57
      rotate_left
      · have y7 : ¬ (bn : Int) ≤ 57 := by omega
        have y8 : decide ((bn : Int) ≤ 57) = false := decide_eq_false y7
        have hE := EXT (by rw [DR]; exact rdD_stop _ _ _ _ (by unfold isD; rw [ebn, decide_eq_false q4, Bool.and_false]))
        subst hE
        clear EXT DR ebn
        go_wp2_with fail
        go_meet
        case rel => exact ⟨rfl, rfl⟩
      have y7 : (bn : Int) ≤ 57 := by omega
      have y8 : decide ((bn : Int) ≤ 57) = true := decide_eq_true y7
      have hR2 := Lib.hid (show rdD (9 - (k + 1)) (10 * m + (bn - 48)) (s.data.toList.drop (1 + (k + 1))) = R by
        have h1 := hR.out
        rw [DR, show 9 - k = (9 - (k + 1)) + 1 by omega, rdD_step _ _ _ _ (by unfold isD; rw [ebn, decide_eq_true q3, decide_eq_true q4]; rfl), ebn] at h1
        rw [show 1 + (k + 1) = p + 1 by omega]
        exact h1)
      have hm2 := Lib.hid (show 10 * m + (bn - 48) < 10 ^ (k + 1) by
        have h1 := hm.out
        rw [Nat.pow_succ]
        omega)
      have w1 : IntKind.i64.wrap (10 * (m : Int)) = 10 * (m : Int) := by rw [IntKind.wrap_i64]; omega
      have w2 : IntKind.i64.wrap (bn : Int) = (bn : Int) := by rw [IntKind.wrap_i64]; omega
      have w3 : IntKind.i64.wrap (10 * (m : Int) + (bn : Int)) = 10 * (m : Int) + (bn : Int) := by rw [IntKind.wrap_i64]; omega
      have w4 : IntKind.i64.wrap (10 * (m : Int) + (bn : Int) - 48) = ((10 * m + (bn - 48) : Nat) : Int) := by rw [IntKind.wrap_i64]; omega
      have w5 : IntKind.i64.wrap ((p : Int) + 1) = (p : Int) + 1 := by rw [IntKind.wrap_i64]; omega
      have w6 : (p : Int) + 1 = ((1 + (k + 1) : Nat) : Int) := by omega
      have w7 : 10 * (m : Int) + (bn : Int) - 48 = ((10 * m + (bn - 48) : Nat) : Int) := by omega
      have W6 := Lib.hid w6
      have W7 := Lib.hid w7
      have EP := Lib.hid ep
      clear EXT DR ebn ep w6 w7 hR hm
      go_wp2
      go_roundw
      case rel => exact ⟨10 * m + (bn - 48), k + 1, by have := EP.out; omega, by first | rfl | (rw [W7.out]) | go_num, by first | rfl | (rw [W6.out]) | go_num, by first | rfl | trivial, hR2, hm2⟩
      case measure => simp [intOf] <;> omega
  case rest =>
    obtain ⟨rfl, rfl⟩ := hcut
    clear ST hs3
    go_wp2_with fail
    refine (CO.out wc).mono ?_
    rintro e u1 ⟨g, rfl, hT, hb⟩
    have k1 := Lib.hid (show Below wc.heap.size wc u1 from hb)
    have HT := Lib.hid (fun x (k : Below u1.heap.size u1 x) => hT.bel k)
    have HK := Lib.hid (fun x (k : Below u1.heap.size u1 x) => (hb.trans (k.mono hb.size) : Below wc.heap.size wc x))
    clear hb hT CO
    go_wp2_with fail
    go_loopw [7] (fun i v => ∃ k : Nat, k ≤ 7 ∧ i = .int .i64 (k : Int) ∧ Hid (Below u1.heap.size u1 v) ∧ Hid (∀ i, i < k → ∀ a : Nat, a < 6 → ¬ (rpB (R : Int) (mC i) a = true ∧ lnT (R : Int) (mC i) a = s))) (fun i _ => 7 - (intOf i).toNat)
    case atStart => exact ⟨0, by omega, rfl, Lib.hid (Below.refl _ _), Lib.hid (fun i hi => by omega)⟩
    case round =>
      obtain ⟨k, hk, rfl, hb, hN⟩ := hrel
      generalize wr = v at *
      by_cases hlt : k < 7
      · have j1 : (k : Int) < 7 := by omega
        have j2 : IntKind.i64.wrap ((k : Int) + 1) = (k : Int) + 1 := by rw [IntKind.wrap_i64]; omega
        have j3 : 0 ≤ (k : Int) := by omega
        go_wp2_with fail
        go_loopw [8] (fun a z => ∃ q : Nat, q ≤ 6 ∧ a = .int .i64 (q : Int) ∧ Hid (Below u1.heap.size u1 z) ∧ Hid (∀ a : Nat, a < q → ¬ (rpB (R : Int) (mC k) a = true ∧ lnT (R : Int) (mC k) a = s))) (fun a _ => 6 - (intOf a).toNat)
        case atStart => exact ⟨0, by omega, rfl, hb, Lib.hid (fun i hi => by omega)⟩
        case round =>
          obtain ⟨q, hq, rfl, hb2, hN2⟩ := hrel
          by_cases hq6 : q < 6
          · have l1 : (q : Int) < 6 := by omega
            have l2 : IntKind.i64.wrap ((q : Int) + 1) = (q : Int) + 1 := by rw [IntKind.wrap_i64]; omega
            have l3 : 0 ≤ (q : Int) := by omega
            have x0 := (HT.out _ hb2.out).2 k hlt
            have hg := (HT.out _ hb2.out).1
            obtain ⟨c, ec⟩ : ∃ c, mC k = c := ⟨_, rfl⟩
            have EC := Lib.hid ec
            rw [ec] at x0
            clear ec
            go_upto_region 13 with (fail)
            obtain ⟨V9, eV9, hb9, hH9⟩ := ev3_box wr (R : Int) c (q : Int)
            have k9 := Lib.hid (show Below u1.heap.size u1 V9 from hb2.out.trans (hb9.mono hb2.out.size))
            obtain ⟨Be, eBe⟩ : ∃ B, wr.heap.size = B := ⟨_, rfl⟩
            rw [eBe] at hH9
            try rw [← eV9]
            try rw [eBe]
            obtain ⟨y0, f0⟩ := hH9.one 0 rfl
            obtain ⟨y1, f1⟩ := hH9.one 1 rfl
            obtain ⟨y2, f2⟩ := hH9.one 2 rfl
            replace hH9 := Lib.hid hH9
            replace eV9 := Lib.hid eV9
            clear hb9 x0 hg
            go_wp2_with fail
            refine (LN.out (R : Int) c (q : Int) V9).mono ?_
            rintro e u2 ⟨rfl, hb3⟩
            have k2 := Lib.hid (show Below u1.heap.size u1 u2 from k9.out.trans (hb3.mono k9.out.size))
            have hH2 := Lib.hid (hH9.out.bel hb3)
            clear hb3 hH9 y0 y1 y2 f0 f1 f2
            obtain ⟨L, eL⟩ : ∃ L, lnT (R : Int) c (q : Int) = L := ⟨_, rfl⟩
            have EL := Lib.hid eL
            rw [eL]
            clear eL
            cases hr : rpB (R : Int) c (q : Int) with
            | false =>
              have hN3 := Lib.hid (show ∀ a : Nat, a < q + 1 → ¬ (rpB (R : Int) (mC k) a = true ∧ lnT (R : Int) (mC k) a = s) from fun a ha h => by
                by_cases e : a = q
                · subst e; rw [EC.out, hr] at h; cases h.1
                · exact hN2.out a (by omega) h)
              clear hr hH2
              go_wp2
              go_roundw
              case rel => exact ⟨q + 1, by omega, by first | rfl | go_num, k2, hN3⟩
              case measure => simp [intOf] <;> omega
            | true =>
              by_cases z : L = s
              · have hps := Lib.hid (ps_hit hr (EL.out.trans z))
                obtain ⟨y0, g0⟩ := hH2.out.one 0 rfl
                obtain ⟨y1, g1⟩ := hH2.out.one 1 rfl
                obtain ⟨y2, g2⟩ := hH2.out.one 2 rfl
                have kc := Lib.hid (HK.out u2 k2.out)
                subst z
                clear hr hN hN2 PR
                obtain ⟨x0, f0⟩ := (HQ.out u2 kc.out).one 0 rfl
                obtain ⟨x1, f1⟩ := (HQ.out u2 kc.out).one 1 rfl
                obtain ⟨x2, f2⟩ := (HQ.out u2 kc.out).one 2 rfl
                have hF := (((HQ.out u2 kc.out).set 0 (.int .i64 (R : Int)) (by simp)).set 1 (.int .i64 c) (by simp)).set 2 (.int .i64 (q : Int)) (by simp)
                have hL := Lib.hid ((((HW.out u2 kc.out).setCell (p := ⟨B, 0, none⟩) (Nat.le_of_eq eB) (.int .i64 (R : Int))).setCell (p := ⟨B, 1, none⟩) (Nat.le_of_eq eB) (.int .i64 c)).setCell (p := ⟨B, 2, none⟩) (Nat.le_of_eq eB) (.int .i64 (q : Int)))
                replace hF := Lib.hid hF
                go_wp2
                generalize ((u2.setCell ⟨B, 0, none⟩ (.int .i64 (R : Int))).setCell ⟨B, 1, none⟩ (.int .i64 c)).setCell ⟨B, 2, none⟩ (.int .i64 (q : Int)) = uF at *
                have d0 := (hF.out.one 0 rfl).1
                have d1 := (hF.out.one 1 rfl).1
                have d2 := (hF.out.one 2 rfl).1
                first
                  | exact bodyPost_ret (v := .tuple #[.agg #[.int .i64 (R : Int), .int .i64 c, .int .i64 (q : Int)], .bool true]) (by simp [results, Tryd.results40, go_sem, d0, d1, d2]) rfl ⟨(R : Int), c, (q : Int), true, rfl, hps.out, hL.out⟩
                  | exact bodyPost_end (v := .tuple #[.agg #[.int .i64 (R : Int), .int .i64 c, .int .i64 (q : Int)], .bool true]) (by simp [results, Tryd.results40, go_sem, d0, d1, d2]) rfl ⟨(R : Int), c, (q : Int), true, rfl, hps.out, hL.out⟩
              · have z1 : (L.toList == s.toList) = false := by
                  cases h : (L.toList == s.toList) with
                  | false => rfl
                  | true => exact absurd ((sqB_iff _ _).1 h) z
                have z2 : ¬ L.toList = s.toList := beq_eq_false_iff_ne.1 z1
                have hN3 := Lib.hid (show ∀ a : Nat, a < q + 1 → ¬ (rpB (R : Int) (mC k) a = true ∧ lnT (R : Int) (mC k) a = s) from fun a ha h => by
                  by_cases e : a = q
                  · subst e; rw [EC.out, EL.out] at h; exact z h.2
                  · exact hN2.out a (by omega) h)
                clear hr hH2 z
                go_wp2
                go_roundw
                case rel => exact ⟨q + 1, by omega, by first | rfl | go_num, k2, hN3⟩
                case measure => simp [intOf] <;> omega
          · obtain rfl : q = 6 := by omega
            have hN3 := Lib.hid (show ∀ i, i < k + 1 → ∀ a : Nat, a < 6 → ¬ (rpB (R : Int) (mC i) a = true ∧ lnT (R : Int) (mC i) a = s) from fun i hi a ha h => by
              by_cases e : i = k
              · subst e; exact hN2.out a ha h
              · exact hN.out i (by omega) a ha h)
            go_wp2
            go_roundw
            case rel => exact ⟨k + 1, by omega, by first | rfl | go_num, hb2, hN3⟩
            case measure => simp [intOf] <;> omega
      · obtain rfl : k = 7 := by omega
        have hps := Lib.hid (PR.out hN.out)
        have kc := Lib.hid (HK.out v hb.out)
        clear hN PR
        obtain ⟨x0, f0⟩ := (HQ.out v kc.out).one 0 rfl
        obtain ⟨x1, f1⟩ := (HQ.out v kc.out).one 1 rfl
        obtain ⟨x2, f2⟩ := (HQ.out v kc.out).one 2 rfl
        have hF := (((HQ.out v kc.out).set 0 (.int .i64 0) (by simp)).set 1 (.int .i64 0) (by simp)).set 2 (.int .i64 0) (by simp)
        have hL := Lib.hid ((((HW.out v kc.out).setCell (p := ⟨B, 0, none⟩) (Nat.le_of_eq eB) (.int .i64 0)).setCell (p := ⟨B, 1, none⟩) (Nat.le_of_eq eB) (.int .i64 0)).setCell (p := ⟨B, 2, none⟩) (Nat.le_of_eq eB) (.int .i64 0))
        replace hF := Lib.hid hF
        go_wp2
        generalize ((v.setCell ⟨B, 0, none⟩ (.int .i64 0)).setCell ⟨B, 1, none⟩ (.int .i64 0)).setCell ⟨B, 2, none⟩ (.int .i64 0) = uF at *
        have d0 := (hF.out.one 0 rfl).1
        have d1 := (hF.out.one 1 rfl).1
        have d2 := (hF.out.one 2 rfl).1
        first
          | exact bodyPost_ret (v := .tuple #[.agg #[.int .i64 0, .int .i64 0, .int .i64 0], .bool false]) (by simp [results, Tryd.results40, go_sem, d0, d1, d2]) rfl ⟨0, 0, 0, false, rfl, hps.out, hL.out⟩
          | exact bodyPost_end (v := .tuple #[.agg #[.int .i64 0, .int .i64 0, .int .i64 0], .bool false]) (by simp [results, Tryd.results40, go_sem, d0, d1, d2]) rfl ⟨0, 0, 0, false, rfl, hps.out, hL.out⟩
end Go.Proofs.YtfejdbmamaggpaaDoor
