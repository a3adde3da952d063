/- The document's steps of a turn; walked. -/
import Derived.Test.YtiibgblpbjdpaaaTurn5
import Derived.Test.YtiibgblpbjdpaaaSqrt
import Derived.Test.YtiibgblpbjdpaaaOw
import Derived.Deep.Cut
namespace Go.Proofs.Ytiibgblpbjdpaaa
open Go.ChangeShapes Go.WideShapes Go.ChangeAt Go.RowKit
set_option linter.unusedVariables false
set_option linter.unusedSimpArgs false
def scC (m : Nat) : Int := if m = 14 then 0 else tC m
def scS (m : Nat) : Int := if m = 14 then 1073741824 else tS m
theorem sc_next (j : Nat) (hj : j < 14) : rt ((1152921504606846976 + 1073741824 * scC (j + 1)) / 2) = tC j ∧ (1073741824 * scS (j + 1)) / (2 * tC j) = tS j := by
  by_cases e : j = 13
  · subst e
    have e1 : scC 14 = 0 := rfl
    have e2 : scS 14 = 1073741824 := rfl
    rw [e1, e2]
    exact ⟨rt_top, tcs_top.2⟩
  · have e1 : scC (j + 1) = tC (j + 1) := by unfold scC; exact if_neg (by omega)
    have e2 : scS (j + 1) = tS (j + 1) := by unfold scS; exact if_neg (by omega)
    rw [e1, e2]
    exact ⟨rt_next j (by omega), ts_next j (by omega)⟩
theorem sc_bd (m : Nat) (h : m ≤ 14) : 0 ≤ scC m ∧ scC m ≤ 1073741824 ∧ 0 < scS m ∧ scS m ≤ 1073741824 := by
  by_cases e : m = 14
  · subst e
    have e1 : scC 14 = 0 := rfl
    have e2 : scS 14 = 1073741824 := rfl
    rw [e1, e2]
    omega
  · have e1 : scC m = tC m := by unfold scC; exact if_neg e
    have e2 : scS m = tS m := by unfold scS; exact if_neg e
    have := tcs_bd m (by omega)
    rw [e1, e2]
    omega
theorem sc_lt {m : Nat} (h : m < 14) : scC m = tC m ∧ scS m = tS m := by
  unfold scC scS
  rw [if_neg (by omega), if_neg (by omega)]
  exact ⟨rfl, rfl⟩
set_option maxRecDepth 100000 in
set_option maxHeartbeats 8000000 in
theorem rstep04 (k : Nat) (hk : k < 14) (w : World) : Calls Try.prog 40 #[.int .i64 (k : Int)] w fun e w' => e = .returned (.tuple #[.int .i64 (tC k), .int .i64 (tS k)]) ∧ w = w' := by
  have SQ := Lib.hid (fun (j : Nat) (n : Int) u (hj : j < 14) (e : n = (1152921504606846976 + 1073741824 * scC (j + 1)) / 2) => show Calls Try.prog 57 #[.int .i64 n] u fun e w' => e = .returned (.int .i64 (tC j)) ∧ u = w' from by
    have b := sc_bd (j + 1) (by omega)
    have := rsqrt_at n u (by omega) (by omega)
    rw [e, (sc_next j hj).1, ← e] at this
    exact this)
  go_enter Try.func40, Try.ntmps40
  go_wp2_with fail
  go_loopw [4, 5, 6] (fun c s i v => ∃ m : Nat, k ≤ m ∧ m ≤ 14 ∧ c = .int .i64 (scC m) ∧ s = .int .i64 (scS m) ∧ i = .int .i64 ((m : Int) - 1) ∧ w = v) (fun _ _ i _ => (intOf i + 1).toNat)
  case atStart => exact ⟨14, by omega, by omega, rfl, rfl, rfl, rfl⟩
  case round =>
    obtain ⟨m, hm, hm2, rfl, rfl, rfl, rfl⟩ := hrel
    by_cases he : m = k
    · subst he
      obtain ⟨x1, x2⟩ := sc_lt hk
      rw [x1, x2]
      have g : ¬ (m : Int) ≤ (m : Int) - 1 := by omega
      have g2 : (m : Int) - 1 < (m : Int) := by omega
      clear SQ
      go_wp2
      go_ret2
      exact ⟨rfl, rfl⟩
    · obtain ⟨j, rfl⟩ : ∃ j, m = j + 1 := ⟨m - 1, by omega⟩
      rw [show ((j + 1 : Nat) : Int) - 1 = (j : Int) by omega]
      have hj : j < 14 := by omega
      have g : (k : Int) ≤ (j : Int) := by omega
      have SQj := fun u => SQ.out j _ u hj rfl
      have b1 := sc_bd (j + 1) (by omega)
      have b0 := tcs_bd j hj
      have tn := (sc_next j hj).2
      have y1 := (sc_lt hj).1
      have y2 := (sc_lt hj).2
      generalize scC (j + 1) = x at *
      generalize scS (j + 1) = s at *
      generalize tC j = c at *
      generalize tS j = z at *
      obtain ⟨P, eP⟩ : ∃ P, P = 1073741824 * x := ⟨_, rfl⟩
      obtain ⟨Q, eQ⟩ : ∃ Q, Q = 1073741824 * s := ⟨_, rfl⟩
      obtain ⟨D, eD⟩ : ∃ D, D = 2 * c := ⟨_, rfl⟩
      obtain ⟨R, eR⟩ : ∃ R, R = (1152921504606846976 + P) / 2 := ⟨_, rfl⟩
      rw [← eP, ← eR] at SQj
      rw [← eQ, ← eD] at tn
      have m1 : IntKind.i64.wrap (1073741824 * x) = P := by rw [← eP, IntKind.wrap_i64]; omega
      have m2 : IntKind.i64.wrap (1152921504606846976 + P) = 1152921504606846976 + P := by rw [IntKind.wrap_i64]; omega
      have m3 : (1152921504606846976 + P).tdiv 2 = R := by rw [Int.tdiv_eq_ediv_of_nonneg (by omega), eR]
      have m4 : IntKind.i64.wrap R = R := by rw [IntKind.wrap_i64]; omega
      have m5 : IntKind.i64.wrap (1073741824 * s) = Q := by rw [← eQ, IntKind.wrap_i64]; omega
      have m6 : IntKind.i64.wrap (2 * c) = D := by rw [← eD, IntKind.wrap_i64]; omega
      have m7 : Q.tdiv D = z := by rw [Int.tdiv_eq_ediv_of_nonneg (by omega), tn]
      have m8 : IntKind.i64.wrap z = z := by rw [IntKind.wrap_i64]; omega
      have m9 : ¬ D = 0 := by omega
      have m10 : ¬ D = -1 := by omega
      have i7 : IntKind.i64.wrap ((j : Int) - 1) = (j : Int) - 1 := by rw [IntKind.wrap_i64]; omega
      clear b1 b0 tn eP eQ eD eR
      replace SQj := Lib.hid SQj
      replace y1 := Lib.hid y1
      replace y2 := Lib.hid y2
      clear SQ
      go_wp2_with fail
      refine (SQj.out _).mono ?_
      rintro e w3 ⟨rfl, rfl⟩
      go_wp2
      go_roundw
      case rel => exact ⟨j, by omega, by omega, by rw [y1.out], by rw [y2.out], rfl, by first | rfl | trivial⟩
      case measure => simp [intOf] <;> omega
def tcR (m : Nat) : List Int := (List.range m).map tC
def tsR (m : Nat) : List Int := (List.range m).map tS
theorem tcR_succ (m : Nat) : tcR (m + 1) = tcR m ++ [tC m] := by simp [tcR, List.range_succ]
theorem tsR_succ (m : Nat) : tsR (m + 1) = tsR m ++ [tS m] := by simp [tsR, List.range_succ]
theorem tcR_len (m : Nat) : (tcR m).length = m := by simp [tcR]
theorem tsR_len (m : Nat) : (tsR m).length = m := by simp [tsR]
theorem tcR_at {m i : Nat} (h : i < m) : (tcR m).getD i 0 = tC i := by simp [tcR, List.getD, h]
theorem tsR_at {m i : Nat} (h : i < m) : (tsR m).getD i 0 = tS i := by simp [tsR, List.getD, h]
/-- Two rows that grow by turns. -/
structure Duo (B : Nat) (x : Value) (L : List Int) (y : Value) (M : List Int) (w : World) : Prop where
  o : Ow B x L w
  p : Ow B y M w
  d : ∀ g, owB x = some g → owB y ≠ some g
theorem Duo.bel {B : Nat} {x y : Value} {L M : List Int} {w w' : World} (h : Duo B x L y M w) (k : Below w.heap.size w w') : Duo B x L y M w' := ⟨h.o.bel k, h.p.bel k, h.d⟩
theorem Duo.app1 {B : Nat} {x x' y : Value} {L L' M : List Int} {w w' : World} (h : Duo B x L y M w) (ho : Ow B x' L' w') (k : OwK x w w') (hx : owB x' = owB x ∨ ∃ g, owB x' = some g ∧ w.heap.size ≤ g) : Duo B x' L' y M w' := by
  refine ⟨ho, h.p.kept (fun g q hg => k.block g hg (fun e => h.d g e q)), fun g q => ?_⟩
  rcases hx with e | ⟨g2, e, h2⟩
  · exact h.d g (by rw [← e]; exact q)
  · intro z
    have := (h.p.lt z).2
    rw [e] at q
    injection q with q
    omega
theorem Duo.app2 {B : Nat} {x y y' : Value} {L M M' : List Int} {w w' : World} (h : Duo B x L y M w) (ho : Ow B y' M' w') (k : OwK y w w') (hx : owB y' = owB y ∨ ∃ g, owB y' = some g ∧ w.heap.size ≤ g) : Duo B x L y' M' w' := by
  refine ⟨h.o.kept (fun g q hg => k.block g hg (fun e => h.d g q e)), ho, fun g q z => ?_⟩
  rcases hx with e | ⟨g2, e, h2⟩
  · exact h.d g q (by rw [← e]; exact z)
  · have := (h.o.lt q).2
    rw [e] at z
    injection z with z
    omega
set_option maxRecDepth 100000 in
set_option maxHeartbeats 8000000 in
theorem rsteps04 (w : World) : Calls Try.prog 13 #[] w fun e w' => ∃ x y, e = .returned (.tuple #[x, y]) ∧ Duo w.heap.size x (tcR 14) y (tsR 14) w' ∧ Below w.heap.size w w' := by
  obtain ⟨B, eB⟩ : ∃ B, B = w.heap.size := ⟨_, rfl⟩
  have ST := Lib.hid (fun (k : Nat) u (hk : k < 14) => rstep04 k hk u)
  go_enter Try.func13, Try.ntmps13
  go_wp2_with fail
  go_loopw [2, 3, 4] (fun l m i v => ∃ (k : Nat) (x y : Value), k ≤ 14 ∧ l = x ∧ m = y ∧ i = .int .i64 (k : Int) ∧ Hid (Duo B x (tcR k) y (tsR k) v ∧ Below B w v)) (fun _ _ i _ => (14 - intOf i).toNat)
  case atStart => exact ⟨0, _, _, by omega, rfl, rfl, rfl, Lib.hid ⟨⟨Ow.nil _ _, Ow.nil _ _, fun g q => by cases q⟩, by rw [eB]; exact Below.refl _ _⟩⟩
  case round =>
    obtain ⟨k, xl, yl, hk, ex, ey, rfl, hS⟩ := hrel
    replace ex := ex.symm
    subst ex
    replace ey := ey.symm
    subst ey
    generalize wr = v0 at *
    by_cases hlt : k < 14
    · have STk := Lib.hid (fun u => ST.out k u hlt)
      have w9 : IntKind.i64.wrap ((k : Int) + 1) = (k : Int) + 1 := by rw [IntKind.wrap_i64]; omega
      have g1 : (k : Int) < 14 := by omega
      have eL := Lib.hid (tcR_succ k)
      have eM := Lib.hid (tsR_succ k)
      have L1 := Lib.hid (show (tcR k).length ≤ 1000 by rw [tcR_len]; omega)
      have L2 := Lib.hid (show (tsR k).length ≤ 1000 by rw [tsR_len]; omega)
      generalize tC k = c at *
      generalize tS k = z at *
      obtain ⟨hD, hb⟩ := hS.out
      replace hD := Lib.hid hD
      replace hb := Lib.hid hb
      clear hS ST
      go_wp2_with fail
      refine (STk.out _).mono ?_
      rintro e w2 ⟨rfl, rfl⟩
      have hA := Lib.hid ((Below.refl v0.heap.size v0).alloc (Nat.le_refl _) (.cells #[.int .i64 c] 2))
      have hD3 := Lib.hid (hD.out.bel hA.out)
      have hz2 := Lib.hid (show B ≤ (v0.alloc (.cells #[.int .i64 c] 2)).heap.size from by have := hb.out.size; simp; omega)
      have hb3 := Lib.hid (hb.out.trans (hA.out.mono (by rw [eB]; exact hb.out.size)))
      go_upto_region 7 with (first | (at_builtin; refine wpList_append_ow _ rfl (.tmp 16) (.tmp 18) rfl B xl (tcR k) c rfl hD3.out.o hz2.out _ rfl (by go_simp) (by have := L1.out; omega) ?_; intro x2 w5 hO5 hk5 hx5))
      rw [← eL.out] at hO5
      have hD5 := Lib.hid (hD3.out.app1 hO5 hk5 hx5)
      have hb5 := Lib.hid (hb3.out.trans (hk5.below hD3.out.o hz2.out))
      have hz5 := hk5.size
      replace hz2 := Lib.hid (show B ≤ w5.heap.size from Nat.le_trans hz2.out hz5)
      clear hA hD3 hb3 hO5 hk5 hx5 hz5 hD hb
      have hA := Lib.hid ((Below.refl w5.heap.size w5).alloc (Nat.le_refl _) (.cells #[.int .i64 z] 2))
      have hD6 := Lib.hid (hD5.out.bel hA.out)
      have hz6 := Lib.hid (show B ≤ (w5.alloc (.cells #[.int .i64 z] 2)).heap.size from by have := hz2.out; simp; omega)
      have hb6 := Lib.hid (hb5.out.trans (hA.out.mono hz2.out))
      clear hD5 hb5 hz2
      go_upto_region 4 with (first | (at_builtin; refine wpList_append_ow _ rfl (.tmp 20) (.tmp 22) rfl B yl (tsR k) z rfl hD6.out.p hz6.out _ rfl (by go_simp) (by have := L2.out; omega) ?_; intro y2 w7 hO7 hk7 hy7))
      rw [← eM.out] at hO7
      have hD7 := Lib.hid (hD6.out.app2 hO7 hk7 hy7)
      have hb7 := Lib.hid (hb6.out.trans (hk7.below hD6.out.p hz6.out))
      clear hA hD6 hb6 hz6 hO7 hk7 hy7
      go_wp2
      go_roundw
      case rel => exact ⟨k + 1, _, _, by omega, rfl, rfl, by first | rfl | (congr 1; omega), Lib.hid ⟨hD7.out, hb7.out⟩⟩
      case measure => simp [intOf] <;> omega
    · obtain rfl : k = 14 := by omega
      obtain ⟨hD, hb⟩ := hS.out
      replace hD := Lib.hid hD
      replace hb := Lib.hid hb
      clear hS hlt hk ST
      go_wp2
      go_ret2
      exact ⟨_, _, rfl, by rw [← eB]; exact hD.out, by rw [← eB]; exact hb.out⟩
/-- The steps in memory, as two slices. -/
structure StT (g1 o1 g2 o2 : Nat) (w : World) : Prop where
  l1 : g1 < w.heap.size
  l2 : g2 < w.heap.size
  c : ∀ i, i < 14 → w.cell? ⟨g1, o1 + i, none⟩ = some (.int .i64 (tC i))
  s : ∀ i, i < 14 → w.cell? ⟨g2, o2 + i, none⟩ = some (.int .i64 (tS i))
theorem StT.below {g1 o1 g2 o2 B : Nat} {w w' : World} (h : StT g1 o1 g2 o2 w) (k : Below B w w') (h1 : g1 < B) (h2 : g2 < B) : StT g1 o1 g2 o2 w' :=
  ⟨Nat.lt_of_lt_of_le h.l1 k.size, Nat.lt_of_lt_of_le h.l2 k.size, fun i hi => (k.cell (p := ⟨g1, o1 + i, none⟩) h1).trans (h.c i hi), fun i hi => (k.cell (p := ⟨g2, o2 + i, none⟩) h2).trans (h.s i hi)⟩
theorem StT.bel {g1 o1 g2 o2 : Nat} {w w' : World} (h : StT g1 o1 g2 o2 w) (k : Below w.heap.size w w') : StT g1 o1 g2 o2 w' := h.below k h.l1 h.l2
theorem StT.beside {b g1 o1 g2 o2 : Nat} {w w' : World} (h : StT g1 o1 g2 o2 w) (k : Beside b w w') (h1 : g1 ≠ b) (h2 : g2 ≠ b) : StT g1 o1 g2 o2 w' :=
  ⟨Nat.lt_of_lt_of_le h.l1 k.size, Nat.lt_of_lt_of_le h.l2 k.size, fun i hi => (World.cell?_of_block (a := ⟨g1, o1 + i, none⟩) (k.block g1 h.l1 h1)).trans (h.c i hi), fun i hi => (World.cell?_of_block (a := ⟨g2, o2 + i, none⟩) (k.block g2 h.l2 h2)).trans (h.s i hi)⟩
theorem Duo.st {B : Nat} {x y : Value} {w : World} (h : Duo B x (tcR 14) y (tsR 14) w) : ∃ g1 o1 c1 g2 o2 c2, x = .slice (some ⟨g1, o1, none⟩) 14 c1 ∧ y = .slice (some ⟨g2, o2, none⟩) 14 c2 ∧ B ≤ g1 ∧ B ≤ g2 ∧ StT g1 o1 g2 o2 w := by
  have r : ∀ {z : Value} {L : List Int} {f : Nat → Int}, Ow B z L w → L.length = 14 → (∀ i, i < 14 → L.getD i 0 = f i) → ∃ g o c, z = .slice (some ⟨g, o, none⟩) 14 c ∧ B ≤ g ∧ g < w.heap.size ∧ ∀ i, i < 14 → w.cell? ⟨g, o + i, none⟩ = some (.int .i64 (f i)) := fun {z L f} hO hL hf => by
    rcases hO with ⟨_, e⟩ | ⟨g, off, cap, cur, rfl, hB, hg, hc, hs, hx⟩
    · rw [e] at hL; cases hL
    · refine ⟨g, off, cap, by rw [hL], hB, ?_, fun i hi => ?_⟩
      · rcases Nat.lt_or_ge g w.heap.size with q | q
        · exact q
        · rw [Array.getElem?_eq_none q] at hg; cases hg
      · rw [cell_of_row w g (off + i) cur _ (0, 0) hg, hx i (by omega), hf i hi]
  obtain ⟨g1, o1, c1, e1, b1, l1, k1⟩ := r h.o (tcR_len 14) (fun i hi => tcR_at hi)
  obtain ⟨g2, o2, c2, e2, b2, l2, k2⟩ := r h.p (tsR_len 14) (fun i hi => tsR_at hi)
  exact ⟨g1, o1, c1, g2, o2, c2, e1, e2, b1, b2, l1, l2, k1, k2⟩
end Go.Proofs.Ytiibgblpbjdpaaa
