/- Package tape: a number at a reader's start; walked. -/
import Derived.Test.YtpcbnoefgknihaaTape8
import Derived.Lib.BitFns
namespace Go.Proofs.Ytpcbnoefgknihaa
open Go.ChangeShapes Go.WideShapes Go.ChangeAt Go.RowKit
set_option linter.unusedVariables false
set_option linter.unusedSimpArgs false
/-- The code that bytes begin with, from place i on, and how many bytes it takes. -/
def tkU : Nat → List Int → Option (Nat × Nat)
  | _, [] => none
  | i, x :: r => if 10 ≤ i then none else if i = 9 ∧ 1 < x then none else if x < 128 then (if x = 0 ∧ 0 < i then none else some (x.toNat * 128 ^ i, 1)) else (tkU (i + 1) r).map fun p => ((x.toNat % 128) * 128 ^ i + p.1, p.2 + 1)
theorem tkU_cons (i : Nat) (x : Int) (r : List Int) : tkU i (x :: r) = if 10 ≤ i then none else if i = 9 ∧ 1 < x then none else if x < 128 then (if x = 0 ∧ 0 < i then none else some (x.toNat * 128 ^ i, 1)) else (tkU (i + 1) r).map fun p => ((x.toNat % 128) * 128 ^ i + p.1, p.2 + 1) := by rw [tkU]
def unfo (c : Nat) : Int := if c % 2 = 0 then ((c / 2 : Nat) : Int) else -1 - ((c / 2 : Nat) : Int)
theorem u8_and : ∀ n : Fin 256, bits .and .u8 (n.val : Int) 127 = ((n.val % 128 : Nat) : Int) := by decide +kernel
theorem p128 (k : Nat) : 128 ^ k = 2 ^ (7 * k) := by rw [Nat.pow_mul]
theorem acc_lt {c k : Nat} {x : Int} (hc : c < 128 ^ k) (hk : k < 10) (hx : 0 ≤ x ∧ x < 256) (h9 : k = 9 → x ≤ 1) : c + (x.toNat % 128) * 128 ^ k < 18446744073709551616 ∧ (k < 9 → c + (x.toNat % 128) * 128 ^ k < 128 ^ (k + 1)) := by
  rcases (show k = 0 ∨ k = 1 ∨ k = 2 ∨ k = 3 ∨ k = 4 ∨ k = 5 ∨ k = 6 ∨ k = 7 ∨ k = 8 ∨ k = 9 by omega) with rfl | rfl | rfl | rfl | rfl | rfl | rfl | rfl | rfl | rfl <;> simp at hc ⊢ <;> omega
theorem or_step {c k : Nat} {x : Int} (hc : c < 128 ^ k) (hk : k < 10) (hx : 0 ≤ x ∧ x < 256) (h9 : k = 9 → x ≤ 1) : bits .or .u64 (c : Int) (IntKind.u64.wrap (IntKind.u64.wrap (bits .and .u8 x 127) * 2 ^ (7 * k))) = ((c + (x.toNat % 128) * 128 ^ k : Nat) : Int) := by
  have hl := (acc_lt hc hk hx h9).1
  have ha := u8_and ⟨x.toNat, by omega⟩
  rw [show ((x.toNat : Nat) : Int) = x by omega] at ha
  rw [ha]
  obtain ⟨m, em⟩ : ∃ m, x.toNat % 128 = m := ⟨_, rfl⟩
  rw [em] at hl ⊢
  have hm : m < 128 := by omega
  have hb : m * 128 ^ k < 18446744073709551616 := by omega
  have e1 : IntKind.u64.wrap (m : Int) = (m : Int) := by rw [IntKind.wrap_u64]; omega
  have e2 : ((m : Int) * 2 ^ (7 * k)) = ((m * 128 ^ k : Nat) : Int) := by rw [p128]; simp
  have e3 : IntKind.u64.wrap ((m * 128 ^ k : Nat) : Int) = ((m * 128 ^ k : Nat) : Int) := by rw [IntKind.wrap_u64]; omega
  rw [e1, e2, e3]
  have hor : c ||| (m * 128 ^ k) = c + m * 128 ^ k := by
    have := Nat.two_pow_add_eq_or_of_lt (i := 7 * k) (b := c) (by rw [← p128]; exact hc) m
    rw [Nat.or_comm, p128, Nat.mul_comm m, ← this]
    omega
  show IntKind.u64.wrap ((BitVec.ofInt 64 (c : Int) ||| BitVec.ofInt 64 ((m * 128 ^ k : Nat) : Int)).toNat : Int) = _
  rw [BitVec.toNat_or, BitVec.ofInt_natCast, BitVec.ofInt_natCast, BitVec.toNat_ofNat, BitVec.toNat_ofNat, Nat.mod_eq_of_lt (by omega), Nat.mod_eq_of_lt (by omega), hor, IntKind.wrap_u64]
  omega
theorem w64 (x : Int) : wrap64 x = IntKind.i64.wrap x := by simp [IntKind.wrap_i64, wrap64]
theorem u64_and1 {c : Nat} (h : c < 18446744073709551616) : bits .and .u64 (c : Int) 1 = ((c % 2 : Nat) : Int) := by
  show IntKind.u64.wrap ((BitVec.ofInt 64 (c : Int) &&& BitVec.ofInt 64 1).toNat : Int) = _
  rw [BitVec.toNat_and, BitVec.ofInt_natCast, BitVec.toNat_ofNat, Nat.mod_eq_of_lt (by omega), show (BitVec.ofInt 64 1).toNat = 1 from by decide, Nat.and_one_is_mod, IntKind.wrap_u64]
  omega
theorem i64_xor0 {x : Nat} (h : x < 9223372036854775808) : bits .xor .i64 (x : Int) 0 = (x : Int) := by
  show IntKind.i64.wrap ((BitVec.ofInt 64 (x : Int) ^^^ BitVec.ofInt 64 0).toNat : Int) = _
  rw [show BitVec.ofInt 64 0 = 0#64 by decide, BitVec.xor_zero, BitVec.ofInt_natCast, BitVec.toNat_ofNat, Nat.mod_eq_of_lt (by omega), IntKind.wrap_i64]
  omega
theorem i64_xorm {x : Nat} (h : x < 9223372036854775808) : bits .xor .i64 (x : Int) (-1) = -1 - (x : Int) := by
  show IntKind.i64.wrap ((BitVec.ofInt 64 (x : Int) ^^^ BitVec.ofInt 64 (-1)).toNat : Int) = _
  rw [show BitVec.ofInt 64 (-1) = BitVec.allOnes 64 by decide, BitVec.xor_allOnes, BitVec.toNat_not, BitVec.ofInt_natCast, BitVec.toNat_ofNat, Nat.mod_eq_of_lt (by omega), IntKind.wrap_i64]
  omega
theorem unfo_bits {c : Nat} (h : c < 18446744073709551616) : bits .xor .i64 (wrap64 ((c : Int) / 2)) (wrap64 (-wrap64 (bits .and .u64 (c : Int) 1))) = unfo c := by
  rw [u64_and1 h, w64, w64, w64]
  have e1 : IntKind.i64.wrap ((c : Int) / 2) = ((c / 2 : Nat) : Int) := by rw [IntKind.wrap_i64]; omega
  rw [e1]
  unfold unfo
  by_cases q : c % 2 = 0
  · rw [if_pos q, q, show IntKind.i64.wrap (-IntKind.i64.wrap ((0 : Nat) : Int)) = 0 by decide, i64_xor0 (by omega)]
  · rw [if_neg q, show c % 2 = 1 by omega, show IntKind.i64.wrap (-IntKind.i64.wrap ((1 : Nat) : Int)) = -1 by decide, i64_xorm (by omega)]
set_option maxRecDepth 100000 in
set_option maxHeartbeats 8000000 in
theorem tnum (b : Nat) (L : List Int) (w : World) {X : Nat} (h : Rd X b L w) (hB : BYL L) : Calls Try.prog 46 #[.pointer (some ⟨b, 0, none⟩)] w fun e w' => Only b w w' ∧ ((tkU 0 L = none ∧ e = .panicked [{ v := pqT, recovered := false }]) ∨ ∃ c k, tkU 0 L = some (c, k) ∧ c < 18446744073709551616 ∧ 1 ≤ k ∧ k ≤ L.length ∧ e = .returned (.int .i64 (unfo c)) ∧ Rd X b (L.drop k) w') := by
  have H := Lib.hid h
  have BY := Lib.hid hB
  clear h hB
  go_enter Try.func46, Try.ntmps46
  go_wp2_with fail
  go_loopw [3, 6] (fun cv i v => ∃ (k : Nat) (C : Int), k ≤ 10 ∧ k ≤ L.length ∧ cv = .int .u64 C ∧ i = .int .i64 (k : Int) ∧ Hid (Rd X b (L.drop k) v) ∧ Hid (Only b w v) ∧ Hid (k < 10 → ∃ c : Nat, C = (c : Int) ∧ c < 128 ^ k ∧ tkU 0 L = (tkU k (L.drop k)).map fun p => (c + p.1, k + p.2)) ∧ Hid (k = 10 → tkU 0 L = none)) (fun _ i _ => 10 - (intOf i).toNat)
  case atStart => exact ⟨0, 0, by omega, by omega, rfl, rfl, Lib.hid (by simpa using H.out), Lib.hid (Only.refl _ _), Lib.hid (fun _ => ⟨0, rfl, by simp, by rw [List.drop_zero]; cases tkU 0 L <;> simp⟩), Lib.hid (fun h => by omega)⟩
  case round =>
    obtain ⟨k, C, hk, hkL, rfl, rfl, hR, hO, hI, hN⟩ := hrel
    generalize wr = v at *
    by_cases hlt : k < 10
    · have h1 : (k : Int) < 10 := by omega
      obtain ⟨c, rfl, hc, hT⟩ := hI.out hlt
      replace hT := Lib.hid hT
      replace hc := Lib.hid hc
      obtain ⟨M, eM⟩ : ∃ M, L.drop k = M := ⟨_, rfl⟩
      rw [eM] at hR hT
      have s7 : IntKind.i64.wrap (7 * (k : Int)) = 7 * (k : Int) := by rw [IntKind.wrap_i64]; omega
      have s1 : IntKind.i64.wrap ((k : Int) + 1) = (k : Int) + 1 := by rw [IntKind.wrap_i64]; omega
      cases M with
      | nil =>
        have O := Lib.hid (tone_no b v hR.out)
        have hNo := Lib.hid (show tkU 0 L = none by rw [hT.out]; rfl)
        clear eM hT hI hN
        go_wp2_with fail
        refine O.out.mono ?_
        rintro e v2 ⟨rfl, rfl⟩
        exact ⟨rfl, hO.out, .inl ⟨hNo.out, rfl⟩⟩
      | cons x r =>
        have O := Lib.hid (tone_ok b x r v hR.out)
        go_wp2_with fail
        refine O.out.mono ?_
        rintro e v2 ⟨rfl, hR2, hO2⟩
        have RD9 := Lib.hid (show L.drop (k + 1) = r by rw [← List.drop_drop, eM]; rfl)
        have KL := Lib.hid (show k + 1 ≤ L.length by have := congrArg List.length eM; rw [List.length_drop] at this; simp at this; omega)
        have hO3 := Lib.hid (hO.out.trans hO2)
        have hR2 := Lib.hid hR2
        have bx := BY.out x (List.mem_of_mem_drop (by rw [eM]; simp : x ∈ L.drop k))
        obtain ⟨C2v, eC⟩ : ∃ z, bits .or .u64 (c : Int) (IntKind.u64.wrap (IntKind.u64.wrap (bits .and .u8 x 127) * 2 ^ (7 * k))) = z := ⟨_, rfl⟩
        have OS0 := Lib.hid (fun (h9 : k = 9 → x ≤ 1) => show C2v = ((c + (x.toNat % 128) * 128 ^ k : Nat) : Int) ∧ c + (x.toNat % 128) * 128 ^ k < 18446744073709551616 ∧ (k < 9 → c + (x.toNat % 128) * 128 ^ k < 128 ^ (k + 1)) from ⟨by rw [← eC]; exact or_step hc.out hlt bx h9, acc_lt hc.out hlt bx h9⟩)
        clear hO hO2 hR O eM
        go_upto_region 7 with (fail)
        clear eC
        by_cases hx1 : x < 128
        · by_cases hbad : (x = 0 ∧ 0 < k) ∨ (1 < x ∧ k = 9)
          · have hNo := Lib.hid (show tkU 0 L = none by
              rw [hT.out, tkU_cons, if_neg (by omega)]
              by_cases q : k = 9 ∧ 1 < x
              · rw [if_pos q]; rfl
              · rw [if_neg q, if_pos hx1, if_pos (by omega)]; rfl)
            clear OS0 hT hI hN hc
            rcases hbad with ⟨rfl, q⟩ | ⟨q, rfl⟩
            · have q1 : (0 : Int) < (k : Int) := by omega
              go_wp2
              exact ⟨rfl, hO3.out, .inl ⟨hNo.out, rfl⟩⟩
            · have q1 : (x == 0) = false := beq_eq_false_iff_ne.2 (by omega)
              have q2 : decide (1 < x) = true := decide_eq_true q
              go_wp2
              exact ⟨rfl, hO3.out, .inl ⟨hNo.out, rfl⟩⟩
          · have h9 : k = 9 → x ≤ 1 := fun h => by omega
            obtain ⟨c2, ec2⟩ : ∃ z, c + (x.toNat % 128) * 128 ^ k = z := ⟨_, rfl⟩
            have OS := OS0.out h9
            rw [ec2] at OS
            have US := Lib.hid (show tkU 0 L = some (c2, k + 1) by rw [hT.out, tkU_cons, if_neg (by omega), if_neg (by omega), if_pos hx1, if_neg (by omega)]; show some (c + x.toNat * 128 ^ k, k + 1) = _; rw [← ec2, Nat.mod_eq_of_lt (by omega)])
            have CB := OS.2.1
            have EC := OS.1
            subst EC
            clear OS OS0 hT hI hN hc ec2 h9
            have UF := unfo_bits CB
            obtain ⟨U, eU⟩ : ∃ U, unfo c2 = U := ⟨_, rfl⟩
            rw [eU] at UF
            have EU := Lib.hid eU
            replace CB := Lib.hid CB
            clear eU
            by_cases x0 : x = 0
            · have q1 : (x == 0) = true := beq_iff_eq.2 x0
              have q2 : ¬ (0 : Int) < (k : Int) := by omega
              have q3 : decide ((0 : Int) < (k : Int)) = false := decide_eq_false q2
              have q4 : decide (1 < x) = false := decide_eq_false (by omega)
              have q5 : ¬ 1 < x := by omega
              replace x0 := Lib.hid x0
              go_wp2
              go_ret
              exact ⟨hO3.out, .inr ⟨c2, k + 1, US.out, CB.out, by omega, KL.out, (by rw [EU.out]; rfl), by rw [RD9.out]; exact hR2.out⟩⟩
            · have q1 : (x == 0) = false := beq_eq_false_iff_ne.2 x0
              by_cases x1 : 1 < x
              · have q2 : decide (1 < x) = true := decide_eq_true x1
                have q3 : ((k : Int) == 9) = false := beq_eq_false_iff_ne.2 (by omega)
                have q4 : ¬ (k : Int) = 9 := by omega
                go_wp2
                go_ret
                exact ⟨hO3.out, .inr ⟨c2, k + 1, US.out, CB.out, by omega, KL.out, (by rw [EU.out]; rfl), by rw [RD9.out]; exact hR2.out⟩⟩
              · have q2 : decide (1 < x) = false := decide_eq_false x1
                go_wp2
                go_ret
                exact ⟨hO3.out, .inr ⟨c2, k + 1, US.out, CB.out, by omega, KL.out, (by rw [EU.out]; rfl), by rw [RD9.out]; exact hR2.out⟩⟩
        · have hI2 := Lib.hid (fun (h : k + 1 < 10) => show ∃ c' : Nat, C2v = (c' : Int) ∧ c' < 128 ^ (k + 1) ∧ tkU 0 L = (tkU (k + 1) (L.drop (k + 1))).map fun p => (c' + p.1, (k + 1) + p.2) from by
            obtain ⟨e1, e2, e3⟩ := OS0.out (fun h => by omega)
            refine ⟨_, e1, e3 (by omega), ?_⟩
            rw [hT.out, RD9.out, tkU_cons, if_neg (by omega), if_neg (by omega), if_neg hx1]
            cases tkU (k + 1) r with
            | none => rfl
            | some p => simp; omega)
          have hN2 := Lib.hid (fun (h : k + 1 = 10) => show tkU 0 L = none from by rw [hT.out, tkU_cons, if_neg (by omega), if_pos ⟨by omega, by omega⟩]; rfl)
          have hR3 := Lib.hid (show Rd X b (L.drop (k + 1)) v2 by rw [RD9.out]; exact hR2.out)
          clear OS0 hT hI hN hc hR2 RD9
          go_wp2
          go_roundw
          case rel => exact ⟨k + 1, C2v, by omega, KL.out, rfl, by first | rfl | go_num, hR3, hO3, hI2, hN2⟩
          case measure => simp [intOf]; omega
    · obtain rfl : k = 10 := by omega
      have h1 : ¬ (10 : Int) < 10 := by omega
      have hNo := Lib.hid (hN.out rfl)
      clear hI hN
      go_wp2
      exact ⟨rfl, hO.out, .inl ⟨hNo.out, rfl⟩⟩
end Go.Proofs.Ytpcbnoefgknihaa
