/- The document's Take, from a place on; walked. -/
import Derived.Test.YtpcbnoefgknihaaTapeB
namespace Go.Proofs.Ytpcbnoefgknihaa
open Go.ChangeShapes Go.WideShapes Go.ChangeAt Go.RowKit
set_option linter.unusedVariables false
set_option linter.unusedSimpArgs false
theorem tk_a1 {A : Nat} (h : A < 18446744073709551616) : wrap64 (IntKind.u64.wrap ((A : Int) / 2)) = (A : Int) / 2 := by
  rw [w64, show IntKind.u64.wrap ((A : Int) / 2) = (A : Int) / 2 by rw [IntKind.wrap_u64]; omega, IntKind.wrap_i64]
  omega
theorem tk_a2 {A : Nat} (h : A < 18446744073709551616) : wrap64 (-1 - (A : Int) / 2) = -1 - (A : Int) / 2 := by
  rw [w64, IntKind.wrap_i64]
  omega
set_option maxRecDepth 100000 in
set_option maxHeartbeats 8000000 in
theorem rtake (a : Option Addr) (cap : Nat) (L : List Int) (s : Nat) (w : World) (hr : RowIs .u8 w a L) (hs : s ≤ L.length) (hL : L.length ≤ 1000000) (hB : BYL L) : Calls Try.prog 18 #[.slice a L.length cap, .int .i64 (s : Int)] w fun e w' => w = w' ∧ ((tkU 0 (L.drop s) = none ∧ e = .returned (.tuple #[.int .i64 0, .int .i64 (-1)])) ∨ ∃ c k, tkU 0 (L.drop s) = some (c, k) ∧ c < 18446744073709551616 ∧ 1 ≤ k ∧ s + k ≤ L.length ∧ e = .returned (.tuple #[.int .i64 (unfo c), .int .i64 ((s + k : Nat) : Int)])) := by
  have HR := Lib.hid hr
  have BY := Lib.hid hB
  obtain ⟨n, en⟩ : ∃ n, L.length = n := ⟨_, rfl⟩
  have EN := Lib.hid en
  rw [en] at hs hL ⊢
  have m1 : (n : Int) ≤ 1000000 := by omega
  have m2 : (s : Int) ≤ 1000000 := by omega
  have s10 : IntKind.i64.wrap ((s : Int) + 10) = (s : Int) + 10 := by rw [IntKind.wrap_i64]; omega
  have s9 : IntKind.i64.wrap ((s : Int) + 9) = (s : Int) + 9 := by rw [IntKind.wrap_i64]; omega
  clear hr hB hL en
  go_enter Try.func18, Try.ntmps18
  go_wp2_with fail
  go_loopw [6, 7, 8] (fun u un i v => ∃ (k j C UN : Nat), k ≤ 9 ∧ j = s + k ∧ j ≤ n ∧ u = .int .u64 (C : Int) ∧ un = .int .u64 (UN : Int) ∧ i = .int .i64 (j : Int) ∧ UN = 128 ^ k ∧ Hid (C < 128 ^ k) ∧ Hid (tkU 0 (L.drop s) = (tkU k (L.drop j)).map fun p => (C + p.1, k + p.2)) ∧ v = w) (fun _ _ i _ => n - (intOf i).toNat)
  case atStart => exact ⟨0, s, 0, 1, by omega, rfl, hs, rfl, rfl, rfl, by simp, Lib.hid (by simp), Lib.hid (by cases tkU 0 (L.drop s) <;> simp), rfl⟩
  case round =>
    obtain ⟨k, j, C, UN, hk, hj, hjn, rfl, rfl, rfl, hUN, hC, hT, rfl⟩ := hrel
    have HUN := Lib.hid hUN
    replace hj := Lib.hid hj
    clear hUN
    by_cases hlt : j < n
    · have h1 : (j : Int) < (n : Int) := by omega
      have h2 : (j : Int) < (s : Int) + 10 := by have := hj.out; omega
      have h0 : (0 : Int) ≤ (j : Int) := by omega
      have hjl : j < L.length := by rw [EN.out]; exact hlt
      obtain ⟨b, off, rfl, -, hc⟩ := HR.out.at hjl
      have DR := Lib.hid (drop_at hjl)
      have bx := BY.out (L.getD j 0) (by rw [show L.getD j 0 = L[j] by simp [List.getD, hjl]]; exact List.getElem_mem hjl)
      generalize L.getD j 0 = x at *
      have e1 : IntKind.u64.wrap x = x := by rw [IntKind.wrap_u64]; omega
      have s1 : IntKind.i64.wrap ((j : Int) + 1) = (j : Int) + 1 := by rw [IntKind.wrap_i64]; omega
      by_cases h9 : k = 9 ∧ 1 < x
      · have q1 : ((j : Int) == (s : Int) + 9) = true := beq_iff_eq.2 (by have := hj.out; omega)
        have q2 : (1 : Int) < x := h9.2
        have q3 : decide ((1 : Int) < x) = true := decide_eq_true q2
        have hNo := Lib.hid (show tkU 0 (L.drop s) = none by rw [hT.out, DR.out, tkU_cons, if_neg (by omega), if_pos h9]; rfl)
        clear hjl h9 hT hC DR
        go_wp2
        go_ret2
        exact ⟨rfl, .inl ⟨hNo.out, rfl⟩⟩
      · have ACC := acc_lt hC.out (show k < 10 by omega) bx (fun h => by omega)
        have q0 : ((j : Int) == (s : Int) + 9) = decide (k = 9) := by
          by_cases q : k = 9
          · rw [decide_eq_true q]; exact beq_iff_eq.2 (by have := hj.out; omega)
          · rw [decide_eq_false q]; exact beq_eq_false_iff_ne.2 (by have := hj.out; omega)
        have q9 : k = 9 → decide ((1 : Int) < x) = false := fun h => decide_eq_false (fun h2 => h9 ⟨h, h2⟩)
        have eM : (UN : Int) * (x % 128) = ((x.toNat % 128 * 128 ^ k : Nat) : Int) := by
          rw [HUN.out, show x % 128 = ((x.toNat % 128 : Nat) : Int) by omega, ← Int.natCast_mul, Nat.mul_comm]
        obtain ⟨A, eA⟩ : ∃ A, C + x.toNat % 128 * 128 ^ k = A := ⟨_, rfl⟩
        have eW : IntKind.u64.wrap ((C : Int) + IntKind.u64.wrap ((UN : Int) * (x % 128))) = (A : Int) := by
          rw [eM, IntKind.wrap_u64, IntKind.wrap_u64]; omega
        rw [eA] at ACC
        have AB := ACC.1
        have AL := Lib.hid ACC.2
        have EA := Lib.hid eA
        obtain ⟨H, eH⟩ : ∃ H : Int, H = (A : Int) / 2 := ⟨_, rfl⟩
        obtain ⟨H2, eH2⟩ : ∃ H2 : Int, H2 = -1 - H := ⟨_, rfl⟩
        have a1 : wrap64 (IntKind.u64.wrap ((A : Int) / 2)) = H := by rw [eH]; exact tk_a1 AB
        have a2 : wrap64 (-1 - H) = H2 := by rw [eH2, eH]; exact tk_a2 AB
        have EH := Lib.hid eH
        have EH2 := Lib.hid eH2
        clear eH eH2
        have H9 := Lib.hid h9
        have UF := Lib.hid (show unfo A = if A % 2 = 0 then ((A / 2 : Nat) : Int) else -1 - ((A / 2 : Nat) : Int) from rfl)
        have ABH := Lib.hid AB
        clear ACC eM eA AB h9
        by_cases hx1 : x < 128
        · have US : ¬ (x = 0 ∧ 0 < k) → tkU 0 (L.drop s) = some (A, k + 1) := fun hb => by
            rw [hT.out, DR.out, tkU_cons, if_neg (by omega), if_neg H9.out, if_pos hx1, if_neg hb]
            show some (C + x.toNat * 128 ^ k, k + 1) = _
            rw [← EA.out, Nat.mod_eq_of_lt (by omega)]
          have NS : (x = 0 ∧ 0 < k) → tkU 0 (L.drop s) = none := fun hb => by
            rw [hT.out, DR.out, tkU_cons, if_neg (by omega), if_neg H9.out, if_pos hx1, if_pos hb]; rfl
          have LTJ := Lib.hid (show s + (k + 1) ≤ n by have := hj.out; omega)
          have JE := Lib.hid (show (j : Int) + 1 = (s : Int) + ((k + 1 : Nat) : Int) by have := hj.out; omega)
          have US := Lib.hid US
          have NS := Lib.hid NS
          by_cases x0 : x = 0
          · by_cases k0 : 0 < k
            · have hNo := Lib.hid (NS.out ⟨x0, k0⟩)
              have t1 : (x == 0) = true := beq_iff_eq.2 x0
              have t2 : (s : Int) < (j : Int) := by have := hj.out; omega
              clear US NS hT DR hjl k0
              replace x0 := Lib.hid x0
              cases q : decide (k = 9) with
              | true => have q8 := q9 (of_decide_eq_true q); rw [q] at q0; clear q q9; (go_wp2; go_ret2; exact ⟨rfl, .inl ⟨hNo.out, rfl⟩⟩)
              | false => rw [q] at q0; clear q q9; (go_wp2; go_ret2; exact ⟨rfl, .inl ⟨hNo.out, rfl⟩⟩)
            · have hS := Lib.hid (US.out (fun h => k0 h.2))
              have t1 : (x == 0) = true := beq_iff_eq.2 x0
              have t2 : ¬ (s : Int) < (j : Int) := by have := hj.out; omega
              have q : decide (k = 9) = false := decide_eq_false (by omega)
              rw [q] at q0
              clear US NS hT DR hjl k0 q q9
              replace x0 := Lib.hid x0
              by_cases par : A % 2 = 0
              · have p1 : ((A : Int) % 2 == 1) = false := beq_eq_false_iff_ne.2 (by omega)
                have UE := Lib.hid (show unfo A = H by rw [UF.out, if_pos par, EH.out]; omega)
                clear UF par
                go_wp2
                go_ret2
                exact ⟨rfl, .inr ⟨A, k + 1, hS.out, ABH.out, by omega, LTJ.out, (by first | (rw [UE.out, ← JE.out]; rfl) | (rw [UE.out, show ((s + (k + 1) : Nat) : Int) = (j : Int) + 1 by (have := JE.out; omega)]; first | rfl | (rw [← a1]; rfl) | (rw [← a2]; rfl)))⟩⟩
              · have p1 : ((A : Int) % 2 == 1) = true := beq_iff_eq.2 (by omega)
                have UE := Lib.hid (show unfo A = H2 by rw [UF.out, if_neg par, EH2.out, EH.out]; omega)
                clear UF par
                go_wp2
                go_ret2
                exact ⟨rfl, .inr ⟨A, k + 1, hS.out, ABH.out, by omega, LTJ.out, (by first | (rw [UE.out, ← JE.out]; rfl) | (rw [UE.out, show ((s + (k + 1) : Nat) : Int) = (j : Int) + 1 by (have := JE.out; omega)]; first | rfl | (rw [← a1]; rfl) | (rw [← a2]; rfl)))⟩⟩
          · have hS := Lib.hid (US.out (fun h => x0 h.1))
            have t1 : (x == 0) = false := beq_eq_false_iff_ne.2 x0
            clear US NS hT DR hjl
            cases q : decide (k = 9) with
            | true =>
              have q8 := q9 (of_decide_eq_true q)
              rw [q] at q0
              clear q q9
              by_cases par : A % 2 = 0
              · have p1 : ((A : Int) % 2 == 1) = false := beq_eq_false_iff_ne.2 (by omega)
                have UE := Lib.hid (show unfo A = H by rw [UF.out, if_pos par, EH.out]; omega)
                clear UF par
                go_wp2
                go_ret2
                exact ⟨rfl, .inr ⟨A, k + 1, hS.out, ABH.out, by omega, LTJ.out, (by first | (rw [UE.out, ← JE.out]; rfl) | (rw [UE.out, show ((s + (k + 1) : Nat) : Int) = (j : Int) + 1 by (have := JE.out; omega)]; first | rfl | (rw [← a1]; rfl) | (rw [← a2]; rfl)))⟩⟩
              · have p1 : ((A : Int) % 2 == 1) = true := beq_iff_eq.2 (by omega)
                have UE := Lib.hid (show unfo A = H2 by rw [UF.out, if_neg par, EH2.out, EH.out]; omega)
                clear UF par
                go_wp2
                go_ret2
                exact ⟨rfl, .inr ⟨A, k + 1, hS.out, ABH.out, by omega, LTJ.out, (by first | (rw [UE.out, ← JE.out]; rfl) | (rw [UE.out, show ((s + (k + 1) : Nat) : Int) = (j : Int) + 1 by (have := JE.out; omega)]; first | rfl | (rw [← a1]; rfl) | (rw [← a2]; rfl)))⟩⟩
            | false =>
              rw [q] at q0
              clear q q9
              by_cases par : A % 2 = 0
              · have p1 : ((A : Int) % 2 == 1) = false := beq_eq_false_iff_ne.2 (by omega)
                have UE := Lib.hid (show unfo A = H by rw [UF.out, if_pos par, EH.out]; omega)
                clear UF par
                go_wp2
                go_ret2
                exact ⟨rfl, .inr ⟨A, k + 1, hS.out, ABH.out, by omega, LTJ.out, (by first | (rw [UE.out, ← JE.out]; rfl) | (rw [UE.out, show ((s + (k + 1) : Nat) : Int) = (j : Int) + 1 by (have := JE.out; omega)]; first | rfl | (rw [← a1]; rfl) | (rw [← a2]; rfl)))⟩⟩
              · have p1 : ((A : Int) % 2 == 1) = true := beq_iff_eq.2 (by omega)
                have UE := Lib.hid (show unfo A = H2 by rw [UF.out, if_neg par, EH2.out, EH.out]; omega)
                clear UF par
                go_wp2
                go_ret2
                exact ⟨rfl, .inr ⟨A, k + 1, hS.out, ABH.out, by omega, LTJ.out, (by first | (rw [UE.out, ← JE.out]; rfl) | (rw [UE.out, show ((s + (k + 1) : Nat) : Int) = (j : Int) + 1 by (have := JE.out; omega)]; first | rfl | (rw [← a1]; rfl) | (rw [← a2]; rfl)))⟩⟩
        · have k8 : ¬ k = 9 := fun h => H9.out ⟨h, by omega⟩
          have q : decide (k = 9) = false := decide_eq_false k8
          rw [q] at q0
          have UB : UN * 128 < 18446744073709551616 := by
            rw [HUN.out]
            have : 128 ^ k ≤ 128 ^ 8 := Nat.pow_le_pow_right (by decide) (by omega)
            have e : (128 : Nat) ^ 8 = 72057594037927936 := by decide
            omega
          have u1 : IntKind.u64.wrap ((UN : Int) * 128) = ((UN * 128 : Nat) : Int) := by rw [IntKind.wrap_u64]; omega
          have hT2 := Lib.hid (show tkU 0 (L.drop s) = (tkU (k + 1) (L.drop (j + 1))).map fun p => (A + p.1, (k + 1) + p.2) by
            rw [hT.out, DR.out, tkU_cons, if_neg (by omega), if_neg H9.out, if_neg hx1]
            cases tkU (k + 1) (L.drop (j + 1)) with
            | none => rfl
            | some p => have := EA.out; simp; omega)
          have hU2 := Lib.hid (show UN * 128 = 128 ^ (k + 1) by rw [HUN.out, Nat.pow_succ])
          have hC2 := Lib.hid (AL.out (by omega))
          have hj2 := Lib.hid (show j + 1 = s + (k + 1) by have := hj.out; omega)
          clear hT DR hjl q q9 UB
          go_wp2
          go_roundw
          case rel => exact ⟨k + 1, j + 1, A, UN * 128, by omega, hj2.out, by omega, rfl, by first | rfl | go_num, by first | rfl | go_num, hU2.out, hC2, hT2, (by first | rfl | trivial)⟩
          case measure => simp [intOf]; omega
    · have h1 : ¬ (j : Int) < (n : Int) := by omega
      have hNo := Lib.hid (show tkU 0 (L.drop s) = none by rw [hT.out, List.drop_eq_nil_of_le (by rw [EN.out]; omega)]; rfl)
      clear hT hC
      go_wp2
      go_ret2
      exact ⟨rfl, .inl ⟨hNo.out, rfl⟩⟩
end Go.Proofs.Ytpcbnoefgknihaa
