/- The law DiscPuts; walked. -/
import Derived.Test.YtaijkngdelolgaaDisc2
import Derived.Deep.Cut
namespace Go.Proofs.Ytaijkngdelolgaa
open Go.ChangeShapes Go.WideShapes Go.ChangeAt Go.RowKit
set_option linter.unusedVariables false
set_option linter.unusedSimpArgs false
theorem mk_cell (M : Nat → Bool) (k : Nat) (hk : k < 19) : (#[.bool (M 0), .bool (M 1), .bool (M 2), .bool (M 3), .bool (M 4), .bool (M 5), .bool (M 6), .bool (M 7), .bool (M 8), .bool (M 9), .bool (M 10), .bool (M 11), .bool (M 12), .bool (M 13), .bool (M 14), .bool (M 15), .bool (M 16), .bool (M 17), .bool (M 18)] : Array Value)[k]? = some (.bool (M k)) := by
  obtain rfl | rfl | rfl | rfl | rfl | rfl | rfl | rfl | rfl | rfl | rfl | rfl | rfl | rfl | rfl | rfl | rfl | rfl | rfl : k = 0 ∨ k = 1 ∨ k = 2 ∨ k = 3 ∨ k = 4 ∨ k = 5 ∨ k = 6 ∨ k = 7 ∨ k = 8 ∨ k = 9 ∨ k = 10 ∨ k = 11 ∨ k = 12 ∨ k = 13 ∨ k = 14 ∨ k = 15 ∨ k = 16 ∨ k = 17 ∨ k = 18 := by omega
  all_goals rfl
theorem par_is {F : Nat} (h : F < 2147483648) : parW (F : Int) = if onI (F : Int) 40 % 2 = 1 then (F : Int) else (F : Int) + 2147483648 := by
  have e : (F : Int) % 2147483648 = (F : Int) := by omega
  unfold parW odB
  rw [e]
  by_cases q : onI (F : Int) 40 % 2 = 1
  · rw [if_pos q, decide_eq_true q, if_pos rfl]
  · rw [if_neg q, decide_eq_false q, if_neg (by simp)]
set_option maxRecDepth 100000 in
set_option maxHeartbeats 8000000 in
theorem law_DiscPuts (n : Int) (M : Nat → Bool) (st : Int) (w : World) : Calls Try.prog 3 #[.int .i64 n, .agg #[.bool (M 0), .bool (M 1), .bool (M 2), .bool (M 3), .bool (M 4), .bool (M 5), .bool (M 6), .bool (M 7), .bool (M 8), .bool (M 9), .bool (M 10), .bool (M 11), .bool (M 12), .bool (M 13), .bool (M 14), .bool (M 15), .bool (M 16), .bool (M 17), .bool (M 18)], .int .i64 st] w fun e w' => e = .returned (.bool true) ∧ Below w.heap.size w w' := by
  have LV := Lib.hid (fun u => lives29 u)
  obtain ⟨V, eV, hb0, hgV⟩ : ∃ V, V = w.alloc (.cells #[.bool (M 0), .bool (M 1), .bool (M 2), .bool (M 3), .bool (M 4), .bool (M 5), .bool (M 6), .bool (M 7), .bool (M 8), .bool (M 9), .bool (M 10), .bool (M 11), .bool (M 12), .bool (M 13), .bool (M 14), .bool (M 15), .bool (M 16), .bool (M 17), .bool (M 18)] 23) ∧ Below w.heap.size w V ∧ V.heap[w.heap.size]? = some (.cells #[.bool (M 0), .bool (M 1), .bool (M 2), .bool (M 3), .bool (M 4), .bool (M 5), .bool (M 6), .bool (M 7), .bool (M 8), .bool (M 9), .bool (M 10), .bool (M 11), .bool (M 12), .bool (M 13), .bool (M 14), .bool (M 15), .bool (M 16), .bool (M 17), .bool (M 18)] 23 (0, 0)) := ⟨_, rfl, (by repeat (first | exact Below.refl _ _ | assumption | apply Below.drew | apply below_drewN | (refine Below.alloc ?_ (by first | exact Nat.le_refl _ | omega | (simp <;> omega)) _) | (refine Below.setCell ?_ (by first | exact Nat.le_refl _ | omega | (simp <;> omega)) _))), alloc_get _ _⟩
  have hlt : w.heap.size < V.heap.size := by rcases Nat.lt_or_ge w.heap.size V.heap.size with q | q; exact q; rw [Array.getElem?_eq_none q] at hgV; cases hgV
  replace hb0 := Lib.hid hb0
  replace hlt := Lib.hid hlt
  by_cases h : 0 ≤ n ∧ n ≤ 255 ∧ 0 ≤ st ∧ st ≤ 3
  · obtain ⟨h0, h1, h2, h3⟩ := h
    obtain ⟨a, rfl⟩ := Int.eq_ofNat_of_zero_le h0
    obtain ⟨s, rfl⟩ := Int.eq_ofNat_of_zero_le h2
    have PT := Lib.hid (fun u => dput_ok a s M u (by omega) (by omega))
    have hN := Lib.hid (fun k => mkW_next a s M k)
    have hL := Lib.hid (fun k (hk : k ≤ 19) => mkW_bd a s M k (by omega) (by omega) hk)
    have hZ := mkW_0 a s M
    obtain ⟨F, eF⟩ : ∃ F : Nat → Nat, F = mkW a s M := ⟨_, rfl⟩
    replace PT := Lib.hid (show ∀ u, Calls Try.prog 10 #[.int .i64 (a : Int), .agg #[.bool (M 0), .bool (M 1), .bool (M 2), .bool (M 3), .bool (M 4), .bool (M 5), .bool (M 6), .bool (M 7), .bool (M 8), .bool (M 9), .bool (M 10), .bool (M 11), .bool (M 12), .bool (M 13), .bool (M 14), .bool (M 15), .bool (M 16), .bool (M 17), .bool (M 18)], .int .i64 (s : Int)] u fun e w' => e = .returned (.tuple #[.int .u32 (parW (F 19 : Nat)), .int .i64 0]) ∧ Below u.heap.size u w' from by rw [eF]; exact PT.out)
    replace hN := Lib.hid (show ∀ k, F (k + 1) = if M k then F k + 2 ^ (10 + k) else F k from by rw [eF]; exact hN.out)
    replace hL := Lib.hid (show ∀ k, k ≤ 19 → F k < 2147483648 from by rw [eF]; exact hL.out)
    replace hZ : F 0 = a + s * 536870912 := by rw [eF]; exact hZ
    clear eF
    have s1 : ¬ (s : Int) < 0 := by omega
    have s2 : ¬ 3 < (s : Int) := by omega
    have s3 : ¬ (a : Int) < 0 := by omega
    have s4 : ¬ 255 < (a : Int) := by omega
    have w1 : IntKind.i64.wrap (536870912 * (s : Int)) = 536870912 * (s : Int) := by rw [IntKind.wrap_i64]; omega
    have w2 : IntKind.i64.wrap ((a : Int) + 536870912 * (s : Int)) = ((F 0 : Nat) : Int) := by rw [IntKind.wrap_i64, hZ]; omega
    have CE := Lib.hid (fun u (m : Below V.heap.size V u) k (hk : k < 19) => (m.cell (p := ⟨w.heap.size, k, none⟩) hlt.out).trans ((cell_of_row V w.heap.size k _ _ _ hgV).trans (mk_cell M k hk)))
    have L19 := hL.out 19 (by omega)
    have PI := par_is L19
    have OB := onI_bd ((F 19 : Nat) : Int) 40
    have ON := Lib.hid (fun u => rones_any ((F 19 : Nat) : Int) (by omega) (by omega) u)
    have pb := parW_bd ((F 19 : Nat) : Int)
    clear h0 h1 h2 h3 hZ
    generalize parW ((F 19 : Nat) : Int) = PW at *
    replace PI := Lib.hid PI
    go_enter Try.func3, Try.ntmps3
    go_upto_region 1 with (fail)
    rw [← eV]
    clear eV
    obtain ⟨q, hq⟩ : ∃ q, q = w.heap.size := ⟨_, rfl⟩
    rw [← hq] at hgV ⊢
    replace hq := Lib.hid hq
    go_wp2_with (refine wpList_load_row rfl 23 _ rfl q rfl 23 _ (0, 0) _ hgV Try.underlying23 rfl (by kernel_rfl) ?_)
    rw [← hq.out] at CE
    refine (PT.out _).mono ?_
    rintro e w1 ⟨rfl, hb1⟩
    replace hb0 := Lib.hid (hb0.out.trans (hb1.mono (by have := hlt.out; omega)))
    replace CE := Lib.hid (fun k hk => CE.out w1 hb1 k hk)
    clear hb1 PT hgV
    go_wp2_with fail
    all_goals first | (exfalso; omega) | skip
    go_loopw [9, 10, 11] (fun wd bt i v => ∃ k : Nat, k ≤ 19 ∧ wd = .int .i64 ((F k : Nat) : Int) ∧ bt = .int .i64 ((2 ^ (10 + k) : Nat) : Int) ∧ i = .int .i64 (k : Int) ∧ v = w1) (fun _ _ i _ => 19 - (intOf i).toNat)
    case atStart => exact ⟨0, by omega, rfl, by first | rfl | simp, rfl, rfl⟩
    case round =>
      obtain ⟨k, hk, rfl, rfl, rfl, rfl⟩ := hrel
      by_cases hlt2 : k < 19
      · have c0 := CE.out k hlt2
        have hNk := hN.out k
        have hLk := hL.out (k + 1) (by omega)
        have hLj := hL.out k hk
        have i0 : 0 ≤ (k : Int) := by omega
        have i1 : (k : Int) < 19 := by omega
        have i2 : IntKind.i64.wrap ((k : Int) + 1) = (k : Int) + 1 := by rw [IntKind.wrap_i64]; omega
        have pk : 2 ^ (10 + k) ≤ 2 ^ 28 := Nat.pow_le_pow_right (by decide) (by omega)
        have pn : 2 ^ (10 + (k + 1)) = 2 ^ (10 + k) * 2 := by rw [show 10 + (k + 1) = (10 + k) + 1 by omega, Nat.pow_succ]
        obtain ⟨P, hP⟩ : ∃ P : Nat, P = 2 ^ (10 + k) := ⟨_, rfl⟩
        rw [← hP] at pk pn hNk ⊢
        have i3 : IntKind.i64.wrap ((P : Int) * 2) = ((2 ^ (10 + (k + 1)) : Nat) : Int) := by rw [pn, IntKind.wrap_i64]; omega
        replace pn := Lib.hid pn
        cases hm : M k
        · rw [hm] at hNk c0
          replace hNk : F (k + 1) = F k := hNk
          replace hNk := Lib.hid hNk
          replace hP := Lib.hid hP
          clear hLk hLj pk hm
          go_wp2
          go_roundw
          case rel => exact ⟨k + 1, by omega, by rw [hNk.out], by first | rfl | (rw [pn.out]; rfl), by first | rfl | go_num, by first | rfl | trivial⟩
          case measure => simp [intOf] <;> omega
        · rw [hm] at hNk c0
          replace hNk : F (k + 1) = F k + P := hNk
          have i4 : IntKind.i64.wrap (((F k : Nat) : Int) + (P : Int)) = ((F (k + 1) : Nat) : Int) := by rw [hNk, IntKind.wrap_i64]; omega
          replace hNk := Lib.hid hNk
          replace hP := Lib.hid hP
          clear hLk hLj pk hm
          go_wp2
          go_roundw
          case rel => exact ⟨k + 1, by omega, by first | rfl | (rw [hNk.out]; rfl), by first | rfl | (rw [pn.out]; rfl), by first | rfl | go_num, by first | rfl | trivial⟩
          case measure => simp [intOf] <;> omega
      · obtain rfl : k = 19 := by omega
        clear hlt2 hk hN hL CE w2
        replace PI := PI.out
        generalize F 19 = G at *
        have tm : (onI (G : Int) 40).tmod 2 = onI (G : Int) 40 % 2 := Int.tmod_eq_emod_of_nonneg OB.1
        have wG : IntKind.i64.wrap ((G : Int) + 2147483648) = (G : Int) + 2147483648 := by rw [IntKind.wrap_i64]; omega
        have wp : IntKind.i64.wrap PW = PW := by rw [IntKind.wrap_i64]; omega
        generalize onI (G : Int) 40 = O at *
        clear L19 pb
        by_cases hO : O % 2 = 1
        · rw [if_pos hO] at PI
          rw [hO] at tm
          subst PI
          clear hO
          go_wp2_with fail
          refine (ON.out _).mono ?_
          rintro e w3 ⟨rfl, rfl⟩
          go_wp2_with fail
          refine (LV.out _).mono ?_
          rintro e w9 ⟨rfl, hb9⟩
          go_wp2
          go_ret
          exact ⟨rfl, hb0.out.trans (hb9.mono (by have := hb0.out.size; omega))⟩
        · rw [if_neg hO] at PI
          have hO2 : O % 2 = 0 := by omega
          rw [hO2] at tm
          subst PI
          clear hO hO2
          go_wp2_with fail
          refine (ON.out _).mono ?_
          rintro e w3 ⟨rfl, rfl⟩
          go_wp2_with fail
          refine (LV.out _).mono ?_
          rintro e w9 ⟨rfl, hb9⟩
          go_wp2
          go_ret
          exact ⟨rfl, hb0.out.trans (hb9.mono (by have := hb0.out.size; omega))⟩
  · have PT := Lib.hid (fun u => dput_no n st M u h)
    have hh : n < 0 ∨ (0 ≤ n ∧ 255 < n) ∨ (0 ≤ n ∧ n ≤ 255 ∧ st < 0) ∨ (0 ≤ n ∧ n ≤ 255 ∧ 0 ≤ st ∧ 3 < st) := by omega
    clear h
    go_enter Try.func3, Try.ntmps3
    go_upto_region 1 with (fail)
    rw [← eV]
    clear eV
    obtain ⟨q, hq⟩ : ∃ q, q = w.heap.size := ⟨_, rfl⟩
    rw [← hq] at hgV ⊢
    replace hq := Lib.hid hq
    go_wp2_with (refine wpList_load_row rfl 23 _ rfl q rfl 23 _ (0, 0) _ hgV Try.underlying23 rfl (by kernel_rfl) ?_)
    refine (PT.out _).mono ?_
    rintro e w1 ⟨rfl, hb1⟩
    replace hb0 := Lib.hid (hb0.out.trans (hb1.mono (by have := hlt.out; omega)))
    clear hb1 PT hgV
    rcases hh with hh | ⟨z1, hh⟩ | ⟨z1, z2, hh⟩ | ⟨z1, z2, z3, hh⟩
    · skip
      go_wp2_with fail
      refine (LV.out _).mono ?_
      rintro e w9 ⟨rfl, hb9⟩
      go_wp2
      go_ret
      exact ⟨rfl, hb0.out.trans (hb9.mono (by have := hb0.out.size; omega))⟩
    · skip
      go_wp2_with fail
      refine (LV.out _).mono ?_
      rintro e w9 ⟨rfl, hb9⟩
      go_wp2
      go_ret
      exact ⟨rfl, hb0.out.trans (hb9.mono (by have := hb0.out.size; omega))⟩
    · skip
      go_wp2_with fail
      refine (LV.out _).mono ?_
      rintro e w9 ⟨rfl, hb9⟩
      go_wp2
      go_ret
      exact ⟨rfl, hb0.out.trans (hb9.mono (by have := hb0.out.size; omega))⟩
    · skip
      go_wp2_with fail
      refine (LV.out _).mono ?_
      rintro e w9 ⟨rfl, hb9⟩
      go_wp2
      go_ret
      exact ⟨rfl, hb0.out.trans (hb9.mono (by have := hb0.out.size; omega))⟩
end Go.Proofs.Ytaijkngdelolgaa
