/- Marks as numbers: the word that they are put into; walked. -/
import Derived.Test.YtaijkngdelolgaaWord7
import Derived.Test.YtaijkngdelolgaaObj
import Derived.Test.YtaijkngdelolgaaNew
import Derived.Deep.Cut
namespace Go.Proofs.Ytaijkngdelolgaa
open Go.ChangeShapes Go.WideShapes Go.ChangeAt Go.RowKit
set_option linter.unusedVariables false
set_option linter.unusedSimpArgs false
theorem alloc_get (w : World) (o : Obj) : (w.alloc o).heap[w.heap.size]? = some o := Go.heap_alloc_new w o
theorem pow_pos' (k : Nat) : 0 < 2 ^ k := Nat.two_pow_pos k
theorem nat_and_pow (a k : Nat) : a &&& 2 ^ k = (a.testBit k).toNat * 2 ^ k := by
  apply Nat.eq_of_testBit_eq
  intro i
  rw [Nat.testBit_and, Nat.testBit_two_pow]
  by_cases h : k = i
  · subst h
    cases hb : a.testBit k
    · simp
    · simp [Nat.testBit_two_pow]
  · cases hb : a.testBit k
    · simp [h]
    · simp [Nat.testBit_two_pow, h]
/-- A bit that is not there is set. -/
theorem u32_or (a j : Nat) (h : a + 2 ^ j < 4294967296) (hb : a / 2 ^ j % 2 = 0) : bits .or .u32 (a : Int) ((2 : Int) ^ j) = ((a + 2 ^ j : Nat) : Int) := by
  show IntKind.u32.wrap ((BitVec.ofInt 32 (a : Int) ||| BitVec.ofInt 32 ((2 : Int) ^ j)).toNat : Int) = _
  have hp := pow_pos' j
  have e1 : (BitVec.ofInt 32 (a : Int)).toNat = a := by
    rw [BitVec.toNat_ofInt]
    omega
  have e2 : (BitVec.ofInt 32 ((2 : Int) ^ j)).toNat = 2 ^ j := by
    rw [BitVec.toNat_ofInt, show ((2 : Int) ^ j) = ((2 ^ j : Nat) : Int) by simp]
    generalize 2 ^ j = P at *
    omega
  have hz : BitVec.ofInt 32 (a : Int) &&& BitVec.ofInt 32 ((2 : Int) ^ j) = 0#32 := by
    apply BitVec.eq_of_toNat_eq
    rw [BitVec.toNat_and, e1, e2, nat_and_pow, Nat.testBit_eq_decide_div_mod_eq, decide_eq_false (by omega)]
    simp
  rw [← BitVec.add_eq_or_of_and_eq_zero _ _ hz, BitVec.toNat_add, e1, e2]
  generalize 2 ^ j = P at *
  rw [IntKind.wrap_u32]
  omega
/-- The sum of the first marks. -/
def mkS (M : Nat → Bool) : Nat → Nat
  | 0 => 0
  | k + 1 => mkS M k + (if M k then 2 ^ k else 0)
theorem mkS_lt (M : Nat → Bool) : ∀ k, mkS M k < 2 ^ k
  | 0 => by simp [mkS]
  | k + 1 => by
    have := mkS_lt M k
    have e : 2 ^ (k + 1) = 2 ^ k + 2 ^ k := by rw [Nat.pow_succ]; omega
    unfold mkS
    split <;> omega
theorem mkS_19 (M : Nat → Bool) : mkS M 19 < 524288 := mkS_lt M 19
/-- The word ahead of its parity. -/
def mkW (n st : Nat) (M : Nat → Bool) (k : Nat) : Nat := n + st * 536870912 + 1024 * mkS M k
theorem mkW_bit (n st : Nat) (M : Nat → Bool) (k : Nat) (hn : n ≤ 255) (hk : k < 19) : mkW n st M k / 2 ^ (10 + k) % 2 = 0 := by
  have h := mkS_lt M k
  have e : 536870912 = 2 ^ (10 + k) * (2 * 2 ^ (18 - k)) := by
    rw [show 2 * 2 ^ (18 - k) = 2 ^ (18 - k + 1) by rw [Nat.pow_succ]; omega, ← Nat.pow_add, show 10 + k + (18 - k + 1) = 29 by omega]
  have p : 2 ^ (10 + k) = 1024 * 2 ^ k := by rw [Nat.pow_add]
  have hp := pow_pos' (10 + k)
  have e2 : mkW n st M k = 2 ^ (10 + k) * (st * (2 * 2 ^ (18 - k))) + (n + 1024 * mkS M k) := by
    unfold mkW
    rw [e]
    generalize 2 ^ (10 + k) = A
    generalize 2 ^ (18 - k) = C
    grind
  rw [e2, Nat.mul_add_div hp, Nat.div_eq_of_lt (by omega)]
  generalize 2 ^ (18 - k) = C
  rw [Nat.add_zero, show st * (2 * C) = 2 * (st * C) by grind]
  omega
theorem mkW_bd (n st : Nat) (M : Nat → Bool) (k : Nat) (hn : n ≤ 255) (hs : st ≤ 3) (hk : k ≤ 19) : mkW n st M k < 2147483648 := by
  have h := mkS_lt M k
  have h2 : 2 ^ k ≤ 2 ^ 19 := Nat.pow_le_pow_right (by decide) hk
  unfold mkW
  omega
theorem mkW_next (n st : Nat) (M : Nat → Bool) (k : Nat) : mkW n st M (k + 1) = if M k then mkW n st M k + 2 ^ (10 + k) else mkW n st M k := by
  have p : 2 ^ (10 + k) = 1024 * 2 ^ k := by rw [Nat.pow_add]
  unfold mkW
  rw [p]
  show n + st * 536870912 + 1024 * (mkS M k + (if M k then 2 ^ k else 0)) = _
  split <;> omega
/-- Marks by value, at an index. -/
theorem mk_index (M : Nat → Bool) (k : Nat) (hk : k < 19) (u : World) : (Instr.index 23 (.agg #[.bool (M 0), .bool (M 1), .bool (M 2), .bool (M 3), .bool (M 4), .bool (M 5), .bool (M 6), .bool (M 7), .bool (M 8), .bool (M 9), .bool (M 10), .bool (M 11), .bool (M 12), .bool (M 13), .bool (M 14), .bool (M 15), .bool (M 16), .bool (M 17), .bool (M 18)]) (.int .i64 (k : Int))).run Try.prog u = .ok (.bool (M k)) u := by
  obtain rfl | rfl | rfl | rfl | rfl | rfl | rfl | rfl | rfl | rfl | rfl | rfl | rfl | rfl | rfl | rfl | rfl | rfl | rfl : k = 0 ∨ k = 1 ∨ k = 2 ∨ k = 3 ∨ k = 4 ∨ k = 5 ∨ k = 6 ∨ k = 7 ∨ k = 8 ∨ k = 9 ∨ k = 10 ∨ k = 11 ∨ k = 12 ∨ k = 13 ∨ k = 14 ∨ k = 15 ∨ k = 16 ∨ k = 17 ∨ k = 18 := by omega
  all_goals kernel_rfl
set_option maxRecDepth 100000 in
set_option maxHeartbeats 8000000 in
theorem dnum (n : Int) (w : World) : Calls Try.prog 41 #[.int .i64 n] w fun e w' => e = .returned (.bool (decide (0 ≤ n) && decide (n ≤ 255))) ∧ w = w' := by
  go_enter Try.func41, Try.ntmps41
  go_wp2
  all_goals
    go_ret
    exact ⟨ret_bool (by first | (simp_all; done) | (simp_all; intros; omega)), rfl⟩
theorem mkW_0 (n st : Nat) (M : Nat → Bool) : mkW n st M 0 = n + st * 536870912 := by
  unfold mkW
  rw [show mkS M 0 = 0 from rfl, Nat.mul_zero, Nat.add_zero]
theorem or_hi {n st : Nat} (M : Nat → Bool) (hn : n ≤ 255) (hs : st ≤ 3) : bits .or .u32 (n : Int) ((st : Int) * 536870912) = ((mkW n st M 0 : Nat) : Int) := by
  rw [mkW_0]
  rw [bits_join_low .u32 32 (by decide) wraps_u32 29 (n : Int) ((st : Int) * 536870912) (by omega) (by omega) (by omega) (by omega) (by omega) (by omega)]
  omega
set_option maxRecDepth 100000 in
set_option maxHeartbeats 8000000 in
theorem dput_ok (n st : Nat) (M : Nat → Bool) (w : World) (hn : n ≤ 255) (hs : st ≤ 3) : Calls Try.prog 10 #[.int .i64 (n : Int), .agg #[.bool (M 0), .bool (M 1), .bool (M 2), .bool (M 3), .bool (M 4), .bool (M 5), .bool (M 6), .bool (M 7), .bool (M 8), .bool (M 9), .bool (M 10), .bool (M 11), .bool (M 12), .bool (M 13), .bool (M 14), .bool (M 15), .bool (M 16), .bool (M 17), .bool (M 18)], .int .i64 (st : Int)] w fun e w' => e = .returned (.tuple #[.int .u32 (parW (mkW n st M 19 : Nat)), .int .i64 0]) ∧ Below w.heap.size w w' := by
  have NU := Lib.hid (fun u => dnum (n : Int) u)
  have hd1 : decide ((0 : Int) ≤ (n : Int)) = true := by simp
  have hd2 : decide ((n : Int) ≤ 255) = true := by simp; omega
  rw [hd1, hd2] at NU
  clear hd1 hd2
  have b19 := mkW_bd n st M 19 hn hs (by omega)
  have PA := Lib.hid (fun u => wparity (mkW n st M 19 : Nat) (by omega) (by omega) u)
  have IX := fun k hk u => mk_index M k hk u
  have s1 : ¬ (st : Int) < 0 := by omega
  have s2 : ¬ 3 < (st : Int) := by omega
  have c1 : IntKind.u32.wrap (n : Int) = (n : Int) := by rw [IntKind.wrap_u32]; omega
  have c2 : IntKind.u32.wrap (st : Int) = (st : Int) := by rw [IntKind.wrap_u32]; omega
  have c3 : IntKind.u32.wrap ((st : Int) * 536870912) = (st : Int) * 536870912 := by rw [IntKind.wrap_u32]; omega
  have c4 := or_hi M hn hs
  have hN := Lib.hid (fun k => mkW_next n st M k)
  have hB := Lib.hid (fun k (hk : k < 19) => mkW_bit n st M k hn hk)
  have hL := Lib.hid (fun k (hk : k ≤ 19) => mkW_bd n st M k hn hs hk)
  clear b19
  obtain ⟨F, eF⟩ : ∃ F : Nat → Nat, F = mkW n st M := ⟨_, rfl⟩
  replace PA := Lib.hid (show ∀ u, Calls Try.prog 42 #[.int .u32 (F 19 : Nat)] u fun e w' => e = .returned (.int .u32 (parW (F 19 : Nat))) ∧ ∃ m, w' = u.drewN m from by rw [eF]; exact PA.out)
  replace c4 : bits .or .u32 (n : Int) ((st : Int) * 536870912) = ((F 0 : Nat) : Int) := by rw [eF]; exact c4
  replace hN := Lib.hid (show ∀ k, F (k + 1) = if M k then F k + 2 ^ (10 + k) else F k from by rw [eF]; exact hN.out)
  replace hB := Lib.hid (show ∀ k, k < 19 → F k / 2 ^ (10 + k) % 2 = 0 from by rw [eF]; exact hB.out)
  replace hL := Lib.hid (show ∀ k, k ≤ 19 → F k < 2147483648 from by rw [eF]; exact hL.out)
  rw [show parW (mkW n st M 19 : Nat) = parW (F 19 : Nat) by rw [eF]]
  clear eF
  obtain ⟨V, eV, hb0, hgV⟩ : ∃ V, V = w.alloc (.cells #[.bool (M 0), .bool (M 1), .bool (M 2), .bool (M 3), .bool (M 4), .bool (M 5), .bool (M 6), .bool (M 7), .bool (M 8), .bool (M 9), .bool (M 10), .bool (M 11), .bool (M 12), .bool (M 13), .bool (M 14), .bool (M 15), .bool (M 16), .bool (M 17), .bool (M 18)] 23) ∧ Below w.heap.size w V ∧ V.heap[w.heap.size]? = some (.cells #[.bool (M 0), .bool (M 1), .bool (M 2), .bool (M 3), .bool (M 4), .bool (M 5), .bool (M 6), .bool (M 7), .bool (M 8), .bool (M 9), .bool (M 10), .bool (M 11), .bool (M 12), .bool (M 13), .bool (M 14), .bool (M 15), .bool (M 16), .bool (M 17), .bool (M 18)] 23 (0, 0)) := ⟨_, rfl, (by repeat (first | exact Below.refl _ _ | assumption | apply Below.drew | apply below_drewN | (refine Below.alloc ?_ (by first | exact Nat.le_refl _ | omega | (simp <;> omega)) _) | (refine Below.setCell ?_ (by first | exact Nat.le_refl _ | omega | (simp <;> omega)) _))), alloc_get _ _⟩
  replace hb0 := Lib.hid hb0
  go_enter Try.func10, Try.ntmps10
  go_upto_region 1 with (fail)
  rw [← eV]
  clear eV
  obtain ⟨q, hq⟩ : ∃ q, q = w.heap.size := ⟨_, rfl⟩
  rw [← hq] at hgV ⊢
  replace hq := Lib.hid hq
  go_wp2_with fail
  refine (NU.out _).mono ?_
  rintro e w1 ⟨rfl, rfl⟩
  go_upto_region 4 with (fail)
  go_wp2_with (refine wpList_load_row rfl 23 _ rfl q rfl 23 _ (0, 0) _ hgV Try.underlying23 rfl (by kernel_rfl) ?_)
  go_loopw [8, 29] (fun wd i v => ∃ k : Nat, k ≤ 19 ∧ wd = .int .u32 ((F k : Nat) : Int) ∧ i = .int .i64 (k : Int) ∧ v = V) (fun _ i _ => 19 - (intOf i).toNat)
  case atStart => exact ⟨0, by omega, rfl, rfl, rfl⟩
  case round =>
    obtain ⟨k, hk, rfl, rfl, rfl⟩ := hrel
    by_cases hlt : k < 19
    · have IXk := IX k hlt
      have hNk := hN.out k
      have hBk := hB.out k hlt
      have hLk := hL.out (k + 1) (by omega)
      have hLj := hL.out k hk
      have i1 : (k : Int) < 19 := by omega
      have i2 : IntKind.i64.wrap ((k : Int) + 1) = (k : Int) + 1 := by rw [IntKind.wrap_i64]; omega
      have i3 : IntKind.i64.wrap (10 + (k : Int)) = 10 + (k : Int) := by rw [IntKind.wrap_i64]; omega
      have i4 : (10 + (k : Int)).toNat = 10 + k := by omega
      have i5 : 0 ≤ 10 + (k : Int) := by omega
      have i6 : min (10 + k) 32 = 10 + k := by omega
      clear IXk
      cases hm : M k
      · rw [hm] at hNk
        replace hNk : F (k + 1) = F k := hNk
        replace hNk := Lib.hid hNk
        clear hBk hLk hLj
        go_wp2
        go_roundw
        case rel => exact ⟨k + 1, by omega, by rw [hNk.out], by first | rfl | go_num, by first | rfl | trivial⟩
        case measure => simp [intOf] <;> omega
      · rw [hm] at hNk
        replace hNk : F (k + 1) = F k + 2 ^ (10 + k) := hNk
        have orr := u32_or (F k) (10 + k) (by omega) hBk
        rw [← hNk] at orr
        obtain ⟨P, hP⟩ : ∃ P, P = (2 : Int) ^ (10 + k) := ⟨_, rfl⟩
        have hP2 : P = ((2 ^ (10 + k) : Nat) : Int) := by rw [hP]; simp
        have e3 : IntKind.u32.wrap ((2 : Int) ^ (10 + k)) = P := by rw [← hP, hP2, IntKind.wrap_u32]; generalize 2 ^ (10 + k) = Z at *; omega
        have e4 : (2 : Int) ^ (10 + k) % 4294967296 = P := by rw [← hP, hP2]; generalize 2 ^ (10 + k) = Z at *; omega
        rw [← hP] at orr
        replace hP := Lib.hid hP
        replace hP2 := Lib.hid hP2
        replace hNk := Lib.hid hNk
        clear hBk hLk hLj
        go_wp2
        go_roundw
        case rel => exact ⟨k + 1, by omega, by rfl, by first | rfl | go_num, by first | rfl | trivial⟩
        case measure => simp [intOf] <;> omega
    · obtain rfl : k = 19 := by omega
      go_wp2_with fail
      refine (PA.out _).mono ?_
      rintro e w2 ⟨rfl, m, rfl⟩
      go_wp2
      go_ret2
      exact ⟨rfl, below_drewN hb0.out m⟩
set_option maxRecDepth 100000 in
set_option maxHeartbeats 8000000 in
theorem dput_no (n st : Int) (M : Nat → Bool) (w : World) (h : ¬ (0 ≤ n ∧ n ≤ 255 ∧ 0 ≤ st ∧ st ≤ 3)) : Calls Try.prog 10 #[.int .i64 n, .agg #[.bool (M 0), .bool (M 1), .bool (M 2), .bool (M 3), .bool (M 4), .bool (M 5), .bool (M 6), .bool (M 7), .bool (M 8), .bool (M 9), .bool (M 10), .bool (M 11), .bool (M 12), .bool (M 13), .bool (M 14), .bool (M 15), .bool (M 16), .bool (M 17), .bool (M 18)], .int .i64 st] w fun e w' => e = .returned (.tuple #[.int .u32 0, .int .i64 2]) ∧ Below w.heap.size w w' := by
  have NU := Lib.hid (fun u => dnum n u)
  obtain ⟨V, eV, hb0, hgV⟩ : ∃ V, V = w.alloc (.cells #[.bool (M 0), .bool (M 1), .bool (M 2), .bool (M 3), .bool (M 4), .bool (M 5), .bool (M 6), .bool (M 7), .bool (M 8), .bool (M 9), .bool (M 10), .bool (M 11), .bool (M 12), .bool (M 13), .bool (M 14), .bool (M 15), .bool (M 16), .bool (M 17), .bool (M 18)] 23) ∧ Below w.heap.size w V ∧ V.heap[w.heap.size]? = some (.cells #[.bool (M 0), .bool (M 1), .bool (M 2), .bool (M 3), .bool (M 4), .bool (M 5), .bool (M 6), .bool (M 7), .bool (M 8), .bool (M 9), .bool (M 10), .bool (M 11), .bool (M 12), .bool (M 13), .bool (M 14), .bool (M 15), .bool (M 16), .bool (M 17), .bool (M 18)] 23 (0, 0)) := ⟨_, rfl, (by repeat (first | exact Below.refl _ _ | assumption | apply Below.drew | apply below_drewN | (refine Below.alloc ?_ (by first | exact Nat.le_refl _ | omega | (simp <;> omega)) _) | (refine Below.setCell ?_ (by first | exact Nat.le_refl _ | omega | (simp <;> omega)) _))), alloc_get _ _⟩
  clear hgV
  replace hb0 := Lib.hid hb0
  by_cases hn : 0 ≤ n ∧ n ≤ 255
  · have hd : (decide (0 ≤ n) && decide (n ≤ 255)) = true := by simp; omega
    rw [hd] at NU
    clear hd
    have hs : st < 0 ∨ 3 < st := by omega
    clear h hn
    rcases hs with hs | hs
    · go_enter Try.func10, Try.ntmps10
      go_upto_region 1 with (fail)
      rw [← eV]
      clear eV
      go_wp2_with fail
      refine (NU.out _).mono ?_
      rintro e w1 ⟨rfl, rfl⟩
      go_wp2
      go_ret2
      exact ⟨rfl, hb0.out⟩
    · have hs2 : ¬ st < 0 := by omega
      go_enter Try.func10, Try.ntmps10
      go_upto_region 1 with (fail)
      rw [← eV]
      clear eV
      go_wp2_with fail
      refine (NU.out _).mono ?_
      rintro e w1 ⟨rfl, rfl⟩
      go_wp2
      go_ret2
      exact ⟨rfl, hb0.out⟩
  · have hd : (decide (0 ≤ n) && decide (n ≤ 255)) = false := by rw [Bool.and_eq_false_iff]; simp; omega
    rw [hd] at NU
    clear hd h hn
    go_enter Try.func10, Try.ntmps10
    go_upto_region 1 with (fail)
    rw [← eV]
    clear eV
    go_wp2_with fail
    refine (NU.out _).mono ?_
    rintro e w1 ⟨rfl, rfl⟩
    go_wp2
    go_ret2
    exact ⟨rfl, hb0.out⟩
end Go.Proofs.Ytaijkngdelolgaa
