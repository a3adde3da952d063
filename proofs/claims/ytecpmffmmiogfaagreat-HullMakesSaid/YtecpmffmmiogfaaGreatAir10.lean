/- The document's steps, and those of an atmosphere, as new rows; walked. -/
import Derived.Test.YtecpmffmmiogfaaGreatAir9
import Derived.Test.YtecpmffmmiogfaaGreatOw
import Derived.Deep.Cut
namespace Go.Proofs.YtecpmffmmiogfaaGreat
open Go.ChangeShapes Go.WideShapes Go.ChangeAt Go.RowKit
set_option linter.unusedVariables false
set_option linter.unusedSimpArgs false
theorem Ow.mono {B B2 : Nat} {x : Value} {L : List Int} {w : World} (h : Ow B x L w) (k : B2 ≤ B) : Ow B2 x L w := by
  rcases h with h | ⟨g, off, cap, cur, rfl, hB, r⟩
  · exact .inl h
  · exact .inr ⟨g, off, cap, cur, rfl, Nat.le_trans k hB, r⟩
def stR (m : Nat) : List Int := (List.range m).map aS
def stD (k : Nat) : List Int := (List.range k).map (fun i => (adN (i + 1) : Int))
theorem stR_len (m : Nat) : (stR m).length = m := by simp [stR]
theorem stD_len (m : Nat) : (stD m).length = m := by simp [stD]
theorem stR_succ (m : Nat) : stR (m + 1) = stR m ++ [aS m] := by simp [stR, List.range_succ]
theorem stD_succ (m : Nat) : stD (m + 1) = stD m ++ [(adN (m + 1) : Int)] := by simp [stD, List.range_succ]
theorem stR_at {m i : Nat} (h : i < m) : (stR m).getD i 0 = aS i := by simp [stR, List.getD, h]
theorem stD_at {m i : Nat} (h : i < m) : (stD m).getD i 0 = (adN (i + 1) : Int) := by simp [stD, List.getD, h]
theorem stL_R : StL (stR 2101) := ⟨stR_len _, fun i hi => stR_at hi⟩
theorem alN_int (k : Nat) : (alN k : Int) = 574106 * (atN k : Int) - 98066500 := by
  have := atN_bd k
  unfold alN
  generalize atN k = t at *
  omega
theorem amN_int (k : Nat) : (amN k : Int) = 574106 * (atN k : Int) + 98066500 := by
  unfold amN
  generalize atN k = t at *
  omega
theorem rtemp_k (k : Nat) (hk : k < 2100) (h : Int) (e : h = -100000 + (k : Int) * 1000 + 500) (w : World) : Calls Tryz.prog 24 #[.int .i64 h] w fun e w' => e = .returned (.int .i64 (atN k : Int)) ∧ Below w.heap.size w w' := by
  have := ratemp_any h w
  rw [e, at_arT k hk, ← e] at this
  exact this
set_option maxRecDepth 100000 in
set_option maxHeartbeats 8000000 in
theorem rsteps (w : World) : Calls Tryz.prog 6 #[] w fun e w' => ∃ x L, e = .returned x ∧ Ow w.heap.size x L w' ∧ StL L ∧ Below w.heap.size w w' := by
  obtain ⟨B, eB⟩ : ∃ B, B = w.heap.size := ⟨_, rfl⟩
  have TE := Lib.hid (fun (k : Nat) (h : Int) u (hk : k < 2100) (e : h = -100000 + (k : Int) * 1000 + 500) => rtemp_k k hk h e u)
  go_enter Tryz.func6, Tryz.ntmps6
  go_wp2_with fail
  go_loopw [1, 3, 4, 5] (fun l p h _ v => ∃ (k : Nat) (x : Value), k ≤ 100 ∧ l = x ∧ p = .int .i64 (adN k : Int) ∧ h = .int .i64 (-1000 * ((k : Int) + 1)) ∧ Hid (Ow B x (stD k) v ∧ Below B w v)) (fun _ _ h _ _ => (intOf h + 101000).toNat)
  case atStart => exact ⟨0, _, by omega, rfl, by simp [adN, itN_zero], rfl, Lib.hid ⟨Ow.nil _ _, by rw [eB]; exact Below.refl _ _⟩⟩
  case round =>
    obtain ⟨k, xl, hk, ex, rfl, rfl, hS⟩ := hrel
    replace ex := ex.symm
    subst ex
    by_cases hlt : k < 100
    · have T1 := Lib.hid (fun u => TE.out (99 - k) (-1000 * ((k : Int) + 1) + 500) u (by omega) (by omega))
      have n0 : ¬ (-1000 * ((k : Int) + 1)) < -100000 := by omega
      have n1 : -100000 ≤ (-1000 * ((k : Int) + 1)) := by omega
      have w1 : IntKind.i64.wrap (-1000 * ((k : Int) + 1) + 500) = -1000 * ((k : Int) + 1) + 500 := by rw [IntKind.wrap_i64]; omega
      have w9 : IntKind.i64.wrap (-1000 * ((k : Int) + 1) - 1000) = -1000 * ((k : Int) + 1 + 1) := by rw [IntKind.wrap_i64]; omega
      obtain ⟨hO, hb⟩ := hS.out
      have b1 := adN_bd k (by omega)
      have b2 := adN_bd (k + 1) (by omega)
      have s := adN_succ k
      have hal := al_pos (99 - k)
      have an := atN_bd (99 - k)
      have ea := alN_int (99 - k)
      have em := amN_int (99 - k)
      have eL := stD_succ k
      have lL := stD_len k
      generalize adN k = P at *
      generalize hQ : adN (k + 1) = Q at *
      replace hQ := Lib.hid hQ
      generalize alN (99 - k) = al at *
      generalize amN (99 - k) = am at *
      generalize atN (99 - k) = t at *
      obtain ⟨D, eD⟩ : ∃ D : Int, D = 574106 * (t : Int) := ⟨_, rfl⟩
      rw [← eD] at ea em
      have w2 : IntKind.i64.wrap (574106 * (t : Int)) = D := by rw [← eD, IntKind.wrap_i64]; omega
      have w3 : IntKind.i64.wrap (D + 98066500) = (am : Int) := by rw [em, IntKind.wrap_i64]; omega
      have w4 : IntKind.i64.wrap (D - 98066500) = (al : Int) := by rw [ea, IntKind.wrap_i64]; omega
      obtain ⟨M, eM⟩ : ∃ M : Nat, M = P * am := ⟨_, rfl⟩
      have bM : (M : Int) ≤ 8000000 * 170000000000 := by
        have := Nat.mul_le_mul b1.2 hal.2.2.1
        rw [← eM] at this
        omega
      have w5 : IntKind.i64.wrap ((P : Int) * (am : Int)) = (M : Int) := by rw [eM, IntKind.wrap_i64]; push_cast; rw [eM] at bM; push_cast at bM; have : (0 : Int) ≤ (P : Int) * (am : Int) := Int.mul_nonneg (by omega) (by omega); omega
      have w6 : ((M : Int)).tdiv (al : Int) = (Q : Int) := by rw [Int.tdiv_eq_ediv_of_nonneg (by omega), s, eM]; push_cast; rfl
      have w7 : IntKind.i64.wrap (Q : Int) = (Q : Int) := by rw [IntKind.wrap_i64]; omega
      have nA : ¬ (al : Int) = 0 := by omega
      have nB : ¬ (al : Int) = -1 := by omega
      generalize hh : -1000 * ((k : Int) + 1) = h at *
      replace hh := Lib.hid hh
      have L64 := Lib.hid (show (stD k).length ≤ 1000 by omega)
      replace hO := Lib.hid hO
      replace hb := Lib.hid hb
      replace eL := Lib.hid eL
      replace eM := Lib.hid eM
      replace eD := Lib.hid eD
      clear b1 b2 s hal an ea em hS lL bM
      generalize wr = v0 at *
      go_wp2_with fail
      refine (T1.out _).mono ?_
      rintro e w2 ⟨rfl, hb2⟩
      have hb2' := Lib.hid (hb.out.trans (hb2.mono (by have := hb.out.size; omega)))
      have hO2 := Lib.hid (hO.out.bel hb2)
      clear hb2 hb hO
      have hA := Lib.hid ((Below.refl w2.heap.size w2).alloc (Nat.le_refl _) (.cells #[.int .i64 (Q : Int)] 2))
      have hO3 := Lib.hid (hO2.out.bel hA.out)
      have hz2 := Lib.hid (show B ≤ (w2.alloc (.cells #[.int .i64 (Q : Int)] 2)).heap.size from by have := hb2'.out.size; simp; omega)
      go_upto_region 5 with (first | (at_builtin; refine wpList_append_ow _ rfl (.tmp 24) (.tmp 26) rfl B xl (stD k) (Q : Int) rfl hO3.out hz2.out _ rfl (by go_simp) (by have := L64.out; omega) ?_; intro x2 w5 hO5 hk5 hx5))
      have hb5 := hb2'.out.trans ((hA.out.mono (by have := hb2'.out.size; omega)).trans (hk5.below hO3.out hz2.out))
      rw [← eL.out] at hO5
      clear hA hO3 hz2 hk5 hx5 hO2
      replace hO5 := Lib.hid hO5
      replace hb5 := Lib.hid hb5
      clear hb2'
      go_wp2
      go_roundw
      case rel => exact ⟨k + 1, _, by omega, rfl, by rw [hQ.out], by first | rfl | (congr 1; omega), Lib.hid ⟨hO5.out, hb5.out⟩⟩
      case measure => have := hh.out; simp [intOf]; omega
    · obtain rfl : k = 100 := by omega
      obtain ⟨hO, hb⟩ := hS.out
      obtain ⟨ao, cp, rfl, hr, -⟩ := hO.row
      rw [stD_len]
      obtain ⟨B2, eB2⟩ : ∃ B2, B2 = wr.heap.size := ⟨_, rfl⟩
      have RW := Lib.hid (fun u (m : Below B2 wr u) => hr.below (show Below wr.heap.size wr u by rw [← eB2]; exact m))
      replace hb := Lib.hid hb
      have eB2' := Lib.hid eB2
      clear hS hO hr hlt hk
      generalize wr = w1 at *
      clear eB2
      go_wp2_with fail
      go_loopw [2, 6] (fun l i v => ∃ (j : Nat) (x : Value), j ≤ 100 ∧ l = x ∧ i = .int .i64 (99 - (j : Int)) ∧ Hid (Ow B2 x (stR j) v ∧ Below B2 w1 v)) (fun _ i _ => (intOf i + 1).toNat)
      case atStart => exact ⟨0, _, by omega, rfl, rfl, Lib.hid ⟨Ow.nil _ _, by rw [eB2'.out]; exact Below.refl _ _⟩⟩
      case round =>
        obtain ⟨j, xl, hj, ex, rfl, hS⟩ := hrel
        replace ex := ex.symm
        subst ex
        by_cases hlt : j < 100
        · obtain ⟨hO, hb2⟩ := hS.out
          obtain ⟨br, or_, ea, -, c1⟩ := (RW.out _ hb2).at (show 99 - j < (stD 100).length by rw [stD_len]; omega)
          subst ea
          have ec : (stD 100).getD (99 - j) 0 = aS j := by
            rw [stD_at (by omega), show 99 - j + 1 = 100 - j by omega, ← asD (100 - j) (by omega), show 100 - (100 - j) = j by omega]
            rfl
          rw [ec] at c1
          obtain ⟨i, ei⟩ : ∃ i, i = 99 - j := ⟨_, rfl⟩
          rw [← ei] at c1
          rw [show 99 - (j : Int) = (i : Int) by omega]
          have i0 : 0 ≤ (i : Int) := by omega
          have i1 : ¬ (i : Int) < 0 := by omega
          have i2 : (i : Int) < 100 := by omega
          have i3 : IntKind.i64.wrap ((i : Int) - 1) = (i : Int) - 1 := by rw [IntKind.wrap_i64]; omega
          replace ei := Lib.hid ei
          have eL := Lib.hid (stR_succ j)
          have lL := stR_len j
          have L64 := Lib.hid (show (stR j).length ≤ 1000 by omega)
          generalize aS j = Q at *
          have hA := Lib.hid ((Below.refl wr.heap.size wr).alloc (Nat.le_refl _) (.cells #[.int .i64 Q] 2))
          have hO3 := Lib.hid (hO.bel hA.out)
          have hz2 := Lib.hid (show B2 ≤ (wr.alloc (.cells #[.int .i64 Q] 2)).heap.size from by have := hb2.size; have := eB2'.out; simp; omega)
          replace hb2 := Lib.hid hb2
          clear hS hO ec lL
          go_upto_region 11 with (first | (at_builtin; refine wpList_append_ow _ rfl (.tmp 35) (.tmp 40) rfl B2 xl (stR j) Q rfl hO3.out hz2.out _ rfl (by go_simp) (by have := L64.out; omega) ?_; intro x2 w5 hO5 hk5 hx5))
          have hb5 := hb2.out.trans ((hA.out.mono (by have := hb2.out.size; have := eB2'.out; omega)).trans (hk5.below hO3.out hz2.out))
          rw [← eL.out] at hO5
          clear hA hO3 hz2 hk5 hx5 hb2 c1
          replace hO5 := Lib.hid hO5
          replace hb5 := Lib.hid hb5
          go_wp2
          go_roundw
          case rel => exact ⟨j + 1, by omega, by have := ei.out; omega, Lib.hid ⟨hO5.out, hb5.out⟩⟩
          case measure => have := ei.out; simp [intOf] <;> omega
        · obtain rfl : j = 100 := by omega
          obtain ⟨hO, hb2⟩ := hS.out
          have eL := Lib.hid (show stR 101 = stR 100 ++ [6484800] by rw [stR_succ 100, show aS 100 = 6484800 from by simp [aS, asN, auN, itN_zero]])
          have lL := stR_len 100
          have L64 := Lib.hid (show (stR 100).length ≤ 1000 by omega)
          have hA := Lib.hid ((Below.refl wr.heap.size wr).alloc (Nat.le_refl _) (.cells #[.int .i64 6484800] 2))
          have hO3 := Lib.hid (hO.bel hA.out)
          have hz2 := Lib.hid (show B2 ≤ (wr.alloc (.cells #[.int .i64 6484800] 2)).heap.size from by have := hb2.size; have := eB2'.out; simp; omega)
          replace hb2 := Lib.hid hb2
          clear hS hO lL hlt hj RW
          go_upto_region 15 with (first | (at_builtin; refine wpList_append_ow _ rfl (.tmp 42) (.tmp 44) rfl B2 xl (stR 100) 6484800 rfl hO3.out hz2.out _ rfl (by go_simp) (by have := L64.out; omega) ?_; intro x2 w5 hO5 hk5 hx5))
          have hb5 := hb2.out.trans ((hA.out.mono (by have := hb2.out.size; have := eB2'.out; omega)).trans (hk5.below hO3.out hz2.out))
          rw [← eL.out] at hO5
          have hB : Below B w w5 := hb.out.trans (hb5.mono (by have := hb.out.size; have := eB2'.out; omega))
          have hO5 : Ow B x2 (stR 101) w5 := hO5.mono (by have := hb.out.size; have := eB2'.out; omega)
          clear hA hO3 hz2 hk5 hx5 hb2 eL L64 hb5 hb
          replace hO5 := Lib.hid hO5
          replace hB := Lib.hid hB
          clear eB2'
          go_wp2_with fail
          go_loopw [2, 3, 7, 8] (fun l p h _ v => ∃ (k : Nat) (x : Value), k ≤ 2000 ∧ l = x ∧ p = .int .i64 (auN k : Int) ∧ h = .int .i64 (1000 * (k : Int)) ∧ Hid (Ow B x (stR (101 + k)) v ∧ Below B w v)) (fun _ _ h _ _ => (2001 - intOf h / 1000).toNat)
          case atStart => exact ⟨0, _, by omega, rfl, by simp [auN, itN_zero], rfl, Lib.hid ⟨hO5.out, hB.out⟩⟩
          case round =>
            clear hO5 hB
            obtain ⟨k, xl, hk, ex, rfl, rfl, hS⟩ := hrel
            replace ex := ex.symm
            subst ex
            by_cases hlt : k < 2000
            · have T1 := Lib.hid (fun u => TE.out (100 + k) (1000 * (k : Int) + 500) u (by omega) (by omega))
              have n1 : 1000 * (k : Int) < 2000000 := by omega
              have w1 : IntKind.i64.wrap (1000 * (k : Int) + 500) = 1000 * (k : Int) + 500 := by rw [IntKind.wrap_i64]; omega
              have w9 : IntKind.i64.wrap (1000 * (k : Int) + 1000) = 1000 * ((k : Int) + 1) := by rw [IntKind.wrap_i64]; omega
              obtain ⟨hO, hb⟩ := hS.out
              have b1 := auN_bd k (by omega)
              have b2 := auN_bd (k + 1) (by omega)
              have s := auN_succ k
              have hal := al_pos (100 + k)
              have an := atN_bd (100 + k)
              have ea := alN_int (100 + k)
              have em := amN_int (100 + k)
              have eL : stR (101 + (k + 1)) = stR (101 + k) ++ [(auN (k + 1) : Int)] := by
                rw [show 101 + (k + 1) = 101 + k + 1 by omega, stR_succ]
                rw [show aS (101 + k) = (auN (k + 1) : Int) from by
                  unfold aS
                  rw [show 101 + k = 100 + (k + 1) by omega, asU]]
              have lL := stR_len (101 + k)
              generalize auN k = P at *
              generalize hQ : auN (k + 1) = Q at *
              replace hQ := Lib.hid hQ
              generalize alN (100 + k) = al at *
              generalize amN (100 + k) = am at *
              generalize atN (100 + k) = t at *
              obtain ⟨D, eD⟩ : ∃ D : Int, D = 574106 * (t : Int) := ⟨_, rfl⟩
              rw [← eD] at ea em
              have w2 : IntKind.i64.wrap (574106 * (t : Int)) = D := by rw [← eD, IntKind.wrap_i64]; omega
              have w3 : IntKind.i64.wrap (D + 98066500) = (am : Int) := by rw [em, IntKind.wrap_i64]; omega
              have w4 : IntKind.i64.wrap (D - 98066500) = (al : Int) := by rw [ea, IntKind.wrap_i64]; omega
              obtain ⟨M, eM⟩ : ∃ M : Nat, M = P * al := ⟨_, rfl⟩
              have bM : (M : Int) ≤ 8000000 * 170000000000 := by
                have := Nat.mul_le_mul (show P ≤ 8000000 by omega) hal.2.1
                rw [← eM] at this
                omega
              have w5 : IntKind.i64.wrap ((P : Int) * (al : Int)) = (M : Int) := by rw [eM, IntKind.wrap_i64]; push_cast; rw [eM] at bM; push_cast at bM; have : (0 : Int) ≤ (P : Int) * (al : Int) := Int.mul_nonneg (by omega) (by omega); omega
              have w6 : ((M : Int)).tdiv (am : Int) = (Q : Int) := by rw [Int.tdiv_eq_ediv_of_nonneg (by omega), s, eM]; push_cast; rfl
              have w7 : IntKind.i64.wrap (Q : Int) = (Q : Int) := by rw [IntKind.wrap_i64]; omega
              have nA : ¬ (am : Int) = 0 := by omega
              have nB : ¬ (am : Int) = -1 := by omega
              generalize hh : 1000 * (k : Int) = h at *
              replace hh := Lib.hid hh
              have L64 := Lib.hid (show (stR (101 + k)).length ≤ 10000 by omega)
              generalize stR (101 + k) = LL at *
              replace hO := Lib.hid hO
              replace hb := Lib.hid hb
              replace eL := Lib.hid eL
              replace eM := Lib.hid eM
              replace eD := Lib.hid eD
              clear b1 b2 s hal an ea em hS lL bM
              generalize wr = v0 at *
              go_wp2_with fail
              refine (T1.out _).mono ?_
              rintro e w2 ⟨rfl, hb2⟩
              have hb2' := Lib.hid (hb.out.trans (hb2.mono (by have := hb.out.size; omega)))
              have hO2 := Lib.hid (hO.out.bel hb2)
              clear hb2 hb hO
              have hA := Lib.hid ((Below.refl w2.heap.size w2).alloc (Nat.le_refl _) (.cells #[.int .i64 (Q : Int)] 2))
              have hO3 := Lib.hid (hO2.out.bel hA.out)
              have hz2 := Lib.hid (show B ≤ (w2.alloc (.cells #[.int .i64 (Q : Int)] 2)).heap.size from by have := hb2'.out.size; simp; omega)
              go_upto_region 17 with (first | (at_builtin; refine wpList_append_ow _ rfl (.tmp 61) (.tmp 63) rfl B xl LL (Q : Int) rfl hO3.out hz2.out _ rfl (by go_simp) (by have := L64.out; omega) ?_; intro x2 w5 hO5 hk5 hx5))
              have hb5 := hb2'.out.trans ((hA.out.mono (by have := hb2'.out.size; omega)).trans (hk5.below hO3.out hz2.out))
              rw [← eL.out] at hO5
              clear hA hO3 hz2 hk5 hx5 hO2
              replace hO5 := Lib.hid hO5
              replace hb5 := Lib.hid hb5
              clear hb2'
              go_wp2
              go_roundw
              case rel => exact ⟨k + 1, _, by omega, rfl, by rw [hQ.out], by first | rfl | (congr 1; omega), Lib.hid ⟨hO5.out, hb5.out⟩⟩
              case measure => have := hh.out; simp [intOf]; omega
            · obtain rfl : k = 2000 := by omega
              have hO := Lib.hid hS.out.1
              have hb := Lib.hid hS.out.2
              have n1 : ¬ 1000 * ((2000 : Nat) : Int) < 2000000 := by omega
              clear hS
              go_wp2
              go_ret
              exact ⟨xl, rfl, stR 2101, by rw [← eB]; exact hO.out, stL_R, by rw [← eB]; exact hb.out⟩
end Go.Proofs.YtecpmffmmiogfaaGreat
