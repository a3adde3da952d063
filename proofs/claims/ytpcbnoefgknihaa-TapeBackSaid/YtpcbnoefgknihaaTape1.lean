/- The checksum, in the code and in the document; walked. -/
import Derived.Test.YtpcbnoefgknihaaCrc
import Derived.Test.YtpcbnoefgknihaaReg
import Derived.Deep.Cut
namespace Go.Proofs.Ytpcbnoefgknihaa
open Go.ChangeShapes Go.WideShapes Go.ChangeAt Go.RowKit
set_option linter.unusedVariables false
set_option linter.unusedSimpArgs false
def BY8 (l : List Int) : Prop := ∀ i, i < l.length → 0 ≤ l.getD i 0 ∧ l.getD i 0 < 256
theorem crS_hi {s : Nat} (h : s / 32768 = 1) : crS s = (s * 2 % 65536) ^^^ 4129 := if_pos h
theorem crS_lo {s : Nat} (h : s / 32768 ≠ 1) : crS s = s * 2 % 65536 := if_neg h
set_option maxRecDepth 100000 in
set_option maxHeartbeats 4000000 in
theorem tsum (a : Option Addr) (cap : Nat) (l : List Int) (w : World) (hr : RowIs .u8 w a l) (hL : l.length ≤ maxLen) (hB : BY8 l) :
    Calls Try.prog 20 #[.slice a l.length cap] w fun e w' => e = .returned (.int .u16 (crI l : Nat)) ∧ w = w' := by
  have hL' : (l.length : Int) ≤ 9223372036854775807 := by unfold maxLen at hL; omega
  have hfin : crI (l.take l.length) = crI l := by rw [List.take_length]
  replace hfin := Lib.hid hfin
  replace hB := Lib.hid hB
  go_enter Try.func20, Try.ntmps20
  go_wp2_with fail
  go_loopw [3, 9] (fun s i v => ∃ k : Nat, k ≤ l.length ∧ s = .int .u16 ((crI (l.take k) : Nat) : Int) ∧ i = .int .i64 (k : Int) ∧ w = v) (fun _ i _ => l.length - (intOf i).toNat)
  case atStart => exact ⟨0, by omega, rfl, rfl, rfl⟩
  case round =>
    obtain ⟨k, hk, rfl, rfl, rfl⟩ := hrel
    have hb := crI_lt (l.take k)
    by_cases hlt : k < l.length
    · obtain ⟨b, off, rfl, -, hc⟩ := hr.at hlt
      have h1 : (k : Int) < (l.length : Int) := by omega
      have h0 : 0 ≤ (k : Int) := by omega
      have SN := Lib.hid (crI_take hlt)
      have hx := hB.out k hlt
      generalize crI (l.take k) = s at *
      generalize l.getD k 0 = x at *
      obtain ⟨y, rfl⟩ := Int.eq_ofNat_of_zero_le hx.1
      have hy : y < 256 := by omega
      have ew1 : IntKind.u16.wrap (y : Int) = (y : Int) := by rw [IntKind.wrap_u16]; omega
      have ew2 : IntKind.u16.wrap ((y : Int) * 256) = (y : Int) * 256 := by rw [IntKind.wrap_u16]; omega
      have ew3 := u16_xor hb (show y * 256 < 65536 by omega)
      have SN2 : crI (l.take (k + 1)) = crT 8 (s ^^^ y * 256) := SN.out
      have ht := crX_lt hb hy
      generalize s ^^^ y * 256 = t at *
      rw [show ((y * 256 : Nat) : Int) = (y : Int) * 256 from by omega] at ew3
      replace SN := Lib.hid SN2
      clear SN2 hb hy hx
      go_upto_region 6 with (fail)
      clear ew1 ew2 ew3
      go_wp2_with fail
      go_loopw [3, 18] (fun c j v => ∃ n : Nat, n ≤ 8 ∧ c = .int .u16 ((crT n t : Nat) : Int) ∧ j = .int .i64 (n : Int) ∧ w = v) (fun _ j _ => 8 - (intOf j).toNat)
      case atStart => exact ⟨0, by omega, rfl, rfl, rfl⟩
      case round =>
        obtain ⟨n, hn, rfl, rfl, rfl⟩ := hrel
        by_cases hlt8 : n < 8
        · have hc8 := crT_lt ht n
          have j1 : (n : Int) < 8 := by omega
          have j2 : IntKind.i64.wrap ((n : Int) + 1) = (n : Int) + 1 := by rw [IntKind.wrap_i64]; omega
          have NX := Lib.hid (show crT (n + 1) t = crS (crT n t) from rfl)
          generalize crT n t = c at *
          obtain ⟨d, ed⟩ : ∃ d, d = c * 2 % 65536 := ⟨_, rfl⟩
          have hw : IntKind.u16.wrap ((c : Int) * 2) = (d : Int) := by rw [IntKind.wrap_u16]; omega
          have hA := u16_top hc8
          have hdl : d < 65536 := by omega
          by_cases e1 : c / 32768 = 1
          · rw [e1] at hA
            have hA2 : bits .and .u16 (c : Int) 32768 = 32768 := hA
            have hX := u16_xor hdl (show 4129 < 65536 by decide)
            have N2 : crT (n + 1) t = d ^^^ 4129 := by rw [NX.out, crS_hi e1, ed]
            generalize d ^^^ 4129 = e at *
            have hX2 : bits .xor .u16 (d : Int) 4129 = (e : Int) := hX
            replace N2 := Lib.hid N2
            replace ed := Lib.hid ed
            clear hA hX e1 hdl hc8 NX
            go_wp2
            go_roundw
            case rel => exact ⟨n + 1, by omega, by rw [N2.out], by go_num, by first | rfl | trivial⟩
            case measure => simp [intOf]; omega
          · rw [show c / 32768 = 0 by omega] at hA
            have hA2 : bits .and .u16 (c : Int) 32768 = 0 := hA
            have N2 : crT (n + 1) t = d := by rw [NX.out, crS_lo e1, ed]
            replace N2 := Lib.hid N2
            replace ed := Lib.hid ed
            clear hA e1 hdl hc8 NX
            go_wp2
            go_roundw
            case rel => exact ⟨n + 1, by omega, by rw [N2.out], by go_num, by first | rfl | trivial⟩
            case measure => simp [intOf]; omega
        · obtain rfl : n = 8 := by omega
          clear hlt8
          rw [← SN.out]
          go_wp2
          go_roundw
          case rel => exact ⟨k + 1, by omega, rfl, by go_num, by first | rfl | trivial⟩
          case measure => simp [intOf]; omega
    · have hge : (l.length : Int) ≤ (k : Int) := by omega
      obtain rfl : k = l.length := by omega
      rw [hfin.out] at hb ⊢
      clear hge
      go_wp2
      go_ret
      exact ⟨rfl, rfl⟩
def kkN (n : Nat) : Nat := if n < 8 then 2 ^ (7 - n) else 0
theorem kkN_at {n : Nat} (h : n < 8) : 0 < kkN n ∧ kkN n ≤ 128 ∧ kkN n / 2 = kkN (n + 1) ∧ kkN n = 2 ^ (7 - n) := by
  rcases (show n = 0 ∨ n = 1 ∨ n = 2 ∨ n = 3 ∨ n = 4 ∨ n = 5 ∨ n = 6 ∨ n = 7 by omega) with rfl | rfl | rfl | rfl | rfl | rfl | rfl | rfl <;> decide
set_option maxRecDepth 100000 in
set_option maxHeartbeats 4000000 in
theorem rsum (a : Option Addr) (cap : Nat) (l : List Int) (w : World) (hr : RowIs .u8 w a l) (hL : l.length ≤ maxLen) (hB : BY8 l) :
    Calls Try.prog 21 #[.slice a l.length cap] w fun e w' => e = .returned (.int .i64 (crI l : Nat)) ∧ w = w' := by
  have hL' : (l.length : Int) ≤ 9223372036854775807 := by unfold maxLen at hL; omega
  have hfin : crI (l.take l.length) = crI l := by rw [List.take_length]
  replace hfin := Lib.hid hfin
  replace hB := Lib.hid hB
  go_enter Try.func21, Try.ntmps21
  go_wp2_with fail
  go_loopw [3, 4] (fun s i v => ∃ k : Nat, k ≤ l.length ∧ s = .int .i64 ((crI (l.take k) : Nat) : Int) ∧ i = .int .i64 (k : Int) ∧ w = v) (fun _ i _ => l.length - (intOf i).toNat)
  case atStart => exact ⟨0, by omega, rfl, rfl, rfl⟩
  case round =>
    obtain ⟨k, hk, rfl, rfl, rfl⟩ := hrel
    have hb := crI_lt (l.take k)
    by_cases hlt : k < l.length
    · obtain ⟨b, off, rfl, -, hc⟩ := hr.at hlt
      have h1 : (k : Int) < (l.length : Int) := by omega
      have h0 : 0 ≤ (k : Int) := by omega
      have SN := crI_take hlt
      have hx := hB.out k hlt
      generalize crI (l.take k) = s at *
      generalize l.getD k 0 = x at *
      obtain ⟨y, rfl⟩ := Int.eq_ofNat_of_zero_le hx.1
      have hy : y < 256 := by omega
      rw [show ((y : Int)).toNat = y from rfl, crB_rf hy hb] at SN
      replace SN := Lib.hid SN
      have ew1 : IntKind.i64.wrap (y : Int) = (y : Int) := by rw [IntKind.wrap_i64]; omega
      go_upto_region 6 with (fail)
      clear ew1
      go_wp2_with fail
      go_loopw [3, 6] (fun c j v => ∃ n : Nat, n ≤ 8 ∧ c = .int .i64 ((rfT y n s : Nat) : Int) ∧ j = .int .i64 ((kkN n : Nat) : Int) ∧ w = v) (fun _ j _ => (intOf j).toNat)
      case atStart => exact ⟨0, by omega, rfl, rfl, rfl⟩
      case round =>
        obtain ⟨n, hn, rfl, rfl, rfl⟩ := hrel
        by_cases hlt8 : n < 8
        · have hc8 := rfT_lt (x := y) hb n
          obtain ⟨q1, q2, q3, q4⟩ := kkN_at hlt8
          have NX := show rfT y (n + 1) s = rfS (rfT y n s) (y / 2 ^ (7 - n) % 2) from rfl
          rw [← q4] at NX
          generalize rfT y n s = c at *
          generalize kkN n = K at *
          obtain ⟨K2, eK2⟩ : ∃ K2, K2 = kkN (n + 1) := ⟨_, rfl⟩
          have j1 : (0 : Int) < (K : Int) := by omega
          have j2 : (K : Int) ≠ 0 := by omega
          have j3 : (K : Int).tdiv 2 = (K2 : Int) := by rw [Int.tdiv_eq_ediv_of_nonneg (by omega)]; omega
          have j4 : K2 < K := by omega
          obtain ⟨D, eD⟩ : ∃ D, D = y / K := ⟨_, rfl⟩
          obtain ⟨BT, eB⟩ : ∃ BT, BT = D % 2 := ⟨_, rfl⟩
          have j5 : (y : Int).tdiv (K : Int) = (D : Int) := by rw [Int.tdiv_eq_ediv_of_nonneg (by omega), eD]; simp
          have j6 : (D : Int).tmod 2 = (BT : Int) := by rw [Int.tmod_eq_emod_of_nonneg (by omega)]; omega
          obtain ⟨TP, eT⟩ : ∃ TP, TP = c / 32768 := ⟨_, rfl⟩
          have j7 : (c : Int).tdiv 32768 = (TP : Int) := by rw [Int.tdiv_eq_ediv_of_nonneg (by omega)]; omega
          obtain ⟨d, ed⟩ : ∃ d, d = c * 2 % 65536 := ⟨_, rfl⟩
          have j8 : IntKind.i64.wrap ((c : Int) * 2) = (c : Int) * 2 := by rw [IntKind.wrap_i64]; omega
          have j9 : ((c : Int) * 2).tmod 65536 = (d : Int) := by rw [Int.tmod_eq_emod_of_nonneg (by omega)]; omega
          have hdl : d < 65536 := by omega
          have jA : IntKind.i64.wrap (D : Int) = (D : Int) := by
            have : D ≤ y := by rw [eD]; exact Nat.div_le_self _ _
            rw [IntKind.wrap_i64]; omega
          have jB : IntKind.i64.wrap (TP : Int) = (TP : Int) := by rw [IntKind.wrap_i64]; omega
          have jC : IntKind.i64.wrap (K2 : Int) = (K2 : Int) := by rw [IntKind.wrap_i64]; omega
          by_cases e1 : TP = BT
          · have jD : ((TP : Int) == (BT : Int)) = true := by rw [e1]; simp
            have N2 : rfT y (n + 1) s = d := by rw [NX]; unfold rfS; rw [if_pos (by omega), ← ed]
            replace N2 := Lib.hid N2
            replace eK2 := Lib.hid eK2
            replace j4 := Lib.hid j4
            clear ed hdl hc8 NX q1 q2 q3 q4 eD eB eT hy hx hb
            subst e1
            clear jD
            go_wp2
            go_roundw
            case rel => exact ⟨n + 1, by omega, by rw [N2.out], by rw [eK2.out], by first | rfl | trivial⟩
            case measure => have := j4.out; simp [intOf]; omega
          · have jD : ((TP : Int) == (BT : Int)) = false := beq_eq_false_iff_ne.2 (by omega)
            have hX := i64_xor hdl (show 4129 < 65536 by decide)
            have N2 : rfT y (n + 1) s = d ^^^ 4129 := by rw [NX]; unfold rfS; rw [if_neg (by omega), ← ed]
            generalize d ^^^ 4129 = e at *
            have hX2 : bits .xor .i64 (d : Int) 4129 = (e : Int) := hX
            replace N2 := Lib.hid N2
            replace eK2 := Lib.hid eK2
            replace j4 := Lib.hid j4
            clear ed hdl hc8 NX q1 q2 q3 q4 eD eB eT hy hx hb hX e1
            go_wp2
            go_roundw
            case rel => exact ⟨n + 1, by omega, by rw [N2.out], by rw [eK2.out], by first | rfl | trivial⟩
            case measure => have := j4.out; simp [intOf]; omega
        · obtain rfl : n = 8 := by omega
          clear hlt8
          rw [← SN.out, show ((kkN 8 : Nat) : Int) = 0 from rfl]
          have j2 : IntKind.i64.wrap ((k : Int) + 1) = (k : Int) + 1 := by rw [IntKind.wrap_i64]; omega
          go_wp2
          go_roundw
          case rel => exact ⟨k + 1, by omega, rfl, by go_num, by first | rfl | trivial⟩
          case measure => simp [intOf]; omega
    · have hge : (l.length : Int) ≤ (k : Int) := by omega
      obtain rfl : k = l.length := by omega
      rw [hfin.out] at hb ⊢
      clear hge
      go_wp2
      go_ret
      exact ⟨rfl, rfl⟩
end Go.Proofs.Ytpcbnoefgknihaa
