/- The law TapeBlocks; walked. -/
import Derived.Test.YtpcbnoefgknihaaTape6
import Derived.Test.YtpcbnoefgknihaaGridb
namespace Go.Proofs.Ytpcbnoefgknihaa
open Go.ChangeShapes Go.WideShapes Go.ChangeAt Go.RowKit
set_option linter.unusedVariables false
set_option linter.unusedSimpArgs false
theorem tnum_k (n : Int) (l : List Int) (hl : vn (fo n) = l) (h0 : 0 < l.length) (g1 : -9223372036854775808 ≤ n) (g2 : n ≤ 9223372036854775807) (w : World) : Calls Try.prog 15 #[.slice none 0 0, .int .i64 n] w fun e w' => ∃ g off cap, e = .returned (.slice (some ⟨g, off, none⟩) l.length cap) ∧ RowIs .u8 w' (some ⟨g, off, none⟩) l ∧ Below w.heap.size w w' := by
  refine (tnumber none 0 [] n w (.inl rfl) (by simp) g1 g2).mono ?_
  rintro e w' ⟨x, rfl, hO, hb⟩
  rw [List.nil_append, hl] at hO
  obtain ⟨ao, cap, rfl, hc, hr, hn, hs⟩ := hO.rowIs
  cases ao with
  | none => have := (hn rfl).1; subst this; simp at h0
  | some a =>
    obtain ⟨g, off, sp⟩ := a
    have : sp = none := (hs _ rfl).1
    subst this
    exact ⟨g, off, cap, rfl, hr, hb⟩
theorem RowIs.c {k : IntKind} {w : World} {g off : Nat} {l : List Int} (h : RowIs k w (some ⟨g, off, none⟩) l) {i : Nat} (hi : i < l.length) : w.cell? ⟨g, off + i, none⟩ = some (.int k (l.getD i 0)) := by
  obtain ⟨b, o, e, -, hc⟩ := h.at hi
  injection e with e
  injection e with e1 e2
  subst e1 e2
  exact hc
set_option maxRecDepth 100000 in
set_option maxHeartbeats 4000000 in
theorem lives45 (w : World) : Calls Try.prog 14 #[] w fun e w' => e = .returned (.bool true) ∧ Below w.heap.size w w' := by
  have N1 := Lib.hid (fun u => tnum_k 1 [2] (by decide) (by decide) (by decide) (by decide) u)
  have N2 := Lib.hid (fun u => tnum_k (-1) [1] (by decide) (by decide) (by decide) (by decide) u)
  have N3 := Lib.hid (fun u => tnum_k 64 [128, 1] (by decide) (by decide) (by decide) (by decide) u)
  go_enter Try.func14, Try.ntmps14
  go_wp2_with fail
  refine (N1.out _).mono ?_
  rintro e w1 ⟨ga, oa, ca, rfl, ra, hb⟩
  replace ra := Lib.hid ra
  replace hb := Lib.hid hb
  go_wp2_with fail
  refine (N2.out _).mono ?_
  rintro e w2 ⟨gb, ob, cb, rfl, rb, hb2⟩
  replace ra := Lib.hid (ra.out.below hb2)
  replace hb := Lib.hid (hb.out.trans (hb2.mono hb.out.size))
  replace rb := Lib.hid rb
  clear hb2
  go_wp2_with fail
  refine (N3.out _).mono ?_
  rintro e w3 ⟨gc, oc, cc, rfl, rc, hb3⟩
  replace ra := Lib.hid (ra.out.below hb3)
  replace rb := Lib.hid (rb.out.below hb3)
  replace hb := Lib.hid (hb.out.trans (hb3.mono hb.out.size))
  clear hb3
  have a0 := ra.out.c (i := 0) (by decide)
  have b0 := rb.out.c (i := 0) (by decide)
  have c0 := rc.c (i := 0) (by decide)
  have c1 := rc.c (i := 1) (by decide)
  rw [Nat.add_zero] at a0 b0 c0
  rw [show ([2] : List Int).getD 0 0 = 2 from rfl] at a0
  rw [show ([1] : List Int).getD 0 0 = 1 from rfl] at b0
  rw [show ([128, 1] : List Int).getD 0 0 = 128 from rfl] at c0
  rw [show ([128, 1] : List Int).getD 1 0 = 1 from rfl] at c1
  clear rc
  go_wp2
  go_ret
  exact ⟨rfl, hb.out⟩
set_option maxRecDepth 100000 in
set_option maxHeartbeats 4000000 in
theorem tiswidth (n : Int) (w : World) : Calls Try.prog 48 #[.int .i64 n] w fun e w' => e = .returned (.bool (decide (1 ≤ n ∧ n ≤ 16))) ∧ w = w' := by
  by_cases h1 : 1 ≤ n
  · by_cases h2 : n ≤ 16
    · rw [decide_eq_true (show 1 ≤ n ∧ n ≤ 16 from ⟨h1, h2⟩)]
      go_enter Try.func48, Try.ntmps48
      go_wp2
      go_ret
      exact ⟨by simp [h1, h2], rfl⟩
    · rw [decide_eq_false (show ¬ (1 ≤ n ∧ n ≤ 16) by omega)]
      go_enter Try.func48, Try.ntmps48
      go_wp2
      go_ret
      exact ⟨by simp [h1, h2], rfl⟩
  · rw [decide_eq_false (show ¬ (1 ≤ n ∧ n ≤ 16) by omega)]
    go_enter Try.func48, Try.ntmps48
    go_wp2
    go_ret
    exact ⟨by simp [h1], rfl⟩
set_option maxRecDepth 100000 in
set_option maxHeartbeats 4000000 in
theorem tblock_w (width : Int) (a : Option Addr) (n cap : Nat) (w : World) (h : ¬ (1 ≤ width ∧ width ≤ 16)) : Calls Try.prog 23 #[.int .i64 width, .slice a n cap] w fun e w' => e = .returned (.tuple #[.slice none 0 0, .int .i64 2]) ∧ w = w' := by
  have W := fun u => tiswidth width u
  rw [decide_eq_false h] at W
  replace W := Lib.hid W
  go_enter Try.func23, Try.ntmps23
  go_wp2_with fail
  refine (W.out _).mono ?_
  rintro e w1 ⟨rfl, rfl⟩
  go_wp2
  go_ret2
  exact ⟨rfl, rfl⟩
set_option maxRecDepth 100000 in
set_option maxHeartbeats 4000000 in
theorem tblock_l (width : Int) (a : Option Addr) (n cap : Nat) (w : World) (h : 1 ≤ width ∧ width ≤ 16) (hn : n = 0 ∨ 50 < n) (hm : n ≤ maxLen) : Calls Try.prog 23 #[.int .i64 width, .slice a n cap] w fun e w' => e = .returned (.tuple #[.slice none 0 0, .int .i64 12]) ∧ w = w' := by
  have W := fun u => tiswidth width u
  rw [decide_eq_true h] at W
  replace W := Lib.hid W
  have hm' : (n : Int) ≤ 9223372036854775807 := by unfold maxLen at hm; omega
  rcases hn with h0 | h0
  · have d1 : ((n : Int) == 0) = true := by simp [h0]
    subst h0
    clear d1
    go_enter Try.func23, Try.ntmps23
    go_wp2_with fail
    refine (W.out _).mono ?_
    rintro e w1 ⟨rfl, rfl⟩
    go_wp2
    go_ret2
    exact ⟨rfl, rfl⟩
  · have d1 : ((n : Int) == 0) = false := beq_eq_false_iff_ne.2 (by omega)
    have d2 : (50 : Int) < (n : Int) := by omega
    go_enter Try.func23, Try.ntmps23
    go_wp2_with fail
    refine (W.out _).mono ?_
    rintro e w1 ⟨rfl, rfl⟩
    go_wp2
    go_ret2
    exact ⟨rfl, rfl⟩
set_option maxRecDepth 100000 in
set_option maxHeartbeats 4000000 in
theorem tblock_f (width : Int) (a : Option Addr) (A : Nat → Option Addr) (C : Nat → Nat) (Z : List (List Int)) (cap : Nat) (w : World) (hG : GridIs .i64 w a A C Z) (h : 1 ≤ width ∧ width ≤ 16) (hn : Z.length ≠ 0 ∧ Z.length ≤ 50) (hR : ∀ i, i < Z.length → (Z.getD i []).length ≤ maxLen) (hf : fitB width Z = false) : Calls Try.prog 23 #[.int .i64 width, .slice a Z.length cap] w fun e w' => e = .returned (.tuple #[.slice none 0 0, .int .i64 12]) ∧ w = w' := by
  have W := fun u => tiswidth width u
  rw [decide_eq_true h] at W
  replace W := Lib.hid W
  have F := tfits width a A C Z cap w hG (by unfold maxLen; omega) hR
  rw [hf] at F
  replace F := Lib.hid F
  clear hG hR hf
  generalize Z.length = n at *
  have d1 : ((n : Int) == 0) = false := beq_eq_false_iff_ne.2 (by omega)
  have d2 : ¬ (50 : Int) < (n : Int) := by omega
  have d3 : (n : Int) ≤ 50 := by omega
  go_enter Try.func23, Try.ntmps23
  go_wp2_with fail
  refine (W.out _).mono ?_
  rintro e w1 ⟨rfl, rfl⟩
  go_wp2_with fail
  refine F.out.mono ?_
  rintro e w1 ⟨rfl, rfl⟩
  go_wp2
  go_ret2
  exact ⟨rfl, rfl⟩
set_option maxRecDepth 100000 in
set_option maxHeartbeats 4000000 in
theorem tblock_ok (width : Nat) (a : Option Addr) (A : Nat → Option Addr) (C : Nat → Nat) (Z : List (List Int)) (cap : Nat) (w : World) (hG : GridIs .i64 w a A C Z) (h : 1 ≤ width ∧ width ≤ 16) (hn : Z.length ≠ 0 ∧ Z.length ≤ 50) (hR : ∀ i, i < Z.length → (Z.getD i []).length ≤ maxLen) (hf : fitB (width : Int) Z = true) : Calls Try.prog 23 #[.int .i64 (width : Int), .slice a Z.length cap] w fun e w' => ∃ x', e = .returned (.tuple #[x', .int .i64 0]) ∧ Og 5 w.heap.size x' (nvals .u8 (bkB width Z)) w' ∧ Below w.heap.size w w' := by
  have W := fun u => tiswidth (width : Int) u
  rw [decide_eq_true (show (1 : Int) ≤ (width : Int) ∧ (width : Int) ≤ 16 by omega)] at W
  replace W := Lib.hid W
  have F := tfits (width : Int) a A C Z cap w hG (by unfold maxLen; omega) hR
  rw [hf] at F
  replace F := Lib.hid F
  have AB := Lib.hid (tappblk w.heap.size (.slice none 0 0) [] width a A C Z cap w w hG (Below.refl _ _) (Nat.le_refl _) (Og.nil _ _ _) (Nat.le_refl _) (by simp) h.1 h.2 hn.2 hf)
  clear hG hR hf
  obtain ⟨n, en⟩ : ∃ n, Z.length = n := ⟨_, rfl⟩
  rw [en] at F AB hn ⊢
  clear en
  have d1 : ((n : Int) == 0) = false := beq_eq_false_iff_ne.2 (by omega)
  have d2 : ¬ (50 : Int) < (n : Int) := by omega
  have d3 : (n : Int) ≤ 50 := by omega
  go_enter Try.func23, Try.ntmps23
  go_wp2_with fail
  refine (W.out _).mono ?_
  rintro e w1 ⟨rfl, rfl⟩
  go_wp2_with fail
  refine F.out.mono ?_
  rintro e w1 ⟨rfl, rfl⟩
  go_wp2_with fail
  refine AB.out.mono ?_
  rintro e w2 ⟨x', rfl, hO, hK, hN⟩
  replace hO := Lib.hid hO
  have hb := Lib.hid (hK.below (Og.nil 5 w.heap.size w) (Nat.le_refl _))
  clear hK hN
  go_wp2
  go_ret2
  exact ⟨x', rfl, hO.out, hb.out⟩
set_option maxRecDepth 100000 in
set_option maxHeartbeats 8000000 in
theorem law_TapeBlocks (width : Int) (a : Option Addr) (A : Nat → Option Addr) (C : Nat → Nat) (Z : List (List Int)) (cap : Nat) (w : World) (hG : GridIs .i64 w a A C Z) (hZ : Z.length ≤ maxLen) (hv : ∀ i, i < Z.length → (Z.getD i []).length ≤ maxLen ∧ ∀ n ∈ Z.getD i [], (Lit.int .i64 n).wf = true) : Calls Try.prog 4 #[.int .i64 width, .slice a Z.length cap] w fun e w' => e = .returned (.bool true) ∧ Below w.heap.size w w' := by
  have LV := Lib.hid (fun u => lives45 u)
  have hR : ∀ i, i < Z.length → (Z.getD i []).length ≤ maxLen := fun i hi => (hv i hi).1
  have GT := lgreat a A C Z cap w hG hZ hR
  have hZ' : (Z.length : Int) ≤ 9223372036854775807 := by unfold maxLen at hZ; omega
  by_cases hg : grtB Z = true
  · rw [hg] at GT
    replace GT := Lib.hid GT
    clear hG hv hR hg
    go_enter Try.func4, Try.ntmps4
    go_wp2_with fail
    refine GT.out.mono ?_
    rintro e w1 ⟨rfl, rfl⟩
    go_wp2_with fail
    refine (LV.out _).mono ?_
    rintro e w1 ⟨rfl, hb⟩
    go_wp2
    go_ret
    exact ⟨rfl, hb⟩
  · rw [Bool.eq_false_iff.2 hg] at GT
    replace GT := Lib.hid GT
    by_cases hwd : 1 ≤ width ∧ width ≤ 16
    · have k1 : ¬ width < 1 := by omega
      have k2 : ¬ 16 < width := by omega
      obtain ⟨wd, rfl⟩ := Int.eq_ofNat_of_zero_le (show 0 ≤ width by omega)
      by_cases hn : Z.length ≠ 0 ∧ Z.length ≤ 50
      · have j1 : ¬ (Z.length : Int) < 1 := by omega
        have j2 : ¬ (50 : Int) < (Z.length : Int) := by omega
        have RF := fun u (b : w = u) => rfits (wd : Int) a A C Z cap w hG hZ hR
        by_cases hf : fitB (wd : Int) Z = true
        · have BO := Lib.hid (tblock_ok wd a A C Z cap w hG (by omega) hn hR hf)
          have RB := Lib.hid (fun u (b : Below w.heap.size w u) => rblock wd a A C Z cap u (hG.below b) (by omega) (by omega) hn.2 hf (fun i hi n hm => i64_bd ((hv i hi).2 n hm)))
          have RFu := Lib.hid (fun u (b : Below w.heap.size w u) => rfits (wd : Int) a A C Z cap u (hG.below b) hZ hR)
          have bl : (bkB wd Z).length ≤ 100000 := by
            have := blB_len (width := wd) (m := 16) (fun i hi => by have := fit_at hf hi; omega) Z.length (Nat.le_refl _)
            unfold bkB bdB
            simp only [List.length_append, hd_len, List.length_cons, List.length_nil]
            omega
          rw [hf] at RFu
          replace bl := Lib.hid bl
          clear hG hv hR hg RF hf hn
          go_enter Try.func4, Try.ntmps4
          go_wp2_with fail
          refine GT.out.mono ?_
          rintro e w1 ⟨rfl, rfl⟩
          go_wp2_with fail
          refine BO.out.mono ?_
          rintro e w2 ⟨x1, rfl, hO, hb⟩
          replace hO := Lib.hid hO
          replace hb := Lib.hid hb
          have RF2 := Lib.hid (RFu.out w2 hb.out)
          have RB2 := Lib.hid (RB.out w2 hb.out)
          clear RFu RB BO
          go_wp2_with fail
          refine RF2.out.mono ?_
          rintro e w3 ⟨rfl, rfl⟩
          clear RF2
          go_wp2_with fail
          refine RB2.out.mono ?_
          rintro e w4 ⟨x2, rfl, hO2, hb2⟩
          have hO1 := hO.out.bel hb2
          obtain ⟨a1, c1, rfl, -, r1, -, -⟩ := hO1.rowIs
          obtain ⟨a2, c2, rfl, -, r2, -, -⟩ := hO2.rowIs
          have BY := Lib.hid (rbytes a1 a2 c1 c2 (bkB wd Z) w4 r1 r2 (by have := bl.out; unfold maxLen; omega))
          replace hb := Lib.hid (hb.out.trans (hb2.mono hb.out.size))
          clear hO1 hO2 r1 r2 hb2 hO RB2
          go_wp2_with fail
          refine BY.out.mono ?_
          rintro e w5 ⟨rfl, hb5⟩
          replace hb := Lib.hid (hb.out.trans (hb5.mono hb.out.size))
          clear hb5 BY
          go_wp2_with fail
          refine (LV.out _).mono ?_
          rintro e w6 ⟨rfl, hb6⟩
          replace hb := Lib.hid (hb.out.trans (hb6.mono hb.out.size))
          clear hb6
          go_wp2
          go_ret
          exact ⟨rfl, hb.out⟩
        · have hf' := Bool.eq_false_iff.2 hf
          have BO := Lib.hid (tblock_f (wd : Int) a A C Z cap w hG hwd hn hR hf')
          have RF2 := rfits (wd : Int) a A C Z cap w hG hZ hR
          rw [hf'] at RF2
          replace RF2 := Lib.hid RF2
          clear hG hv hR hg RF hf hf' hn
          go_enter Try.func4, Try.ntmps4
          go_wp2_with fail
          refine GT.out.mono ?_
          rintro e w1 ⟨rfl, rfl⟩
          go_wp2_with fail
          refine BO.out.mono ?_
          rintro e w2 ⟨rfl, rfl⟩
          go_wp2_with fail
          refine RF2.out.mono ?_
          rintro e w3 ⟨rfl, rfl⟩
          go_wp2_with fail
          refine (LV.out _).mono ?_
          rintro e w6 ⟨rfl, hb6⟩
          go_wp2
          go_ret
          exact ⟨rfl, hb6⟩
      · have BO := Lib.hid (tblock_l (wd : Int) a Z.length cap w hwd (by omega) hZ)
        have jj : ((Z.length : Int) < 1) ∨ (¬ (Z.length : Int) < 1 ∧ (50 : Int) < (Z.length : Int)) := by omega
        clear hG hv hR hg hn
        rcases jj with j1 | ⟨j1, j2⟩
        · go_enter Try.func4, Try.ntmps4
          go_wp2_with fail
          refine GT.out.mono ?_
          rintro e w1 ⟨rfl, rfl⟩
          go_wp2_with fail
          refine BO.out.mono ?_
          rintro e w2 ⟨rfl, rfl⟩
          go_wp2_with fail
          refine (LV.out _).mono ?_
          rintro e w6 ⟨rfl, hb6⟩
          go_wp2
          go_ret
          exact ⟨rfl, hb6⟩
        · go_enter Try.func4, Try.ntmps4
          go_wp2_with fail
          refine GT.out.mono ?_
          rintro e w1 ⟨rfl, rfl⟩
          go_wp2_with fail
          refine BO.out.mono ?_
          rintro e w2 ⟨rfl, rfl⟩
          go_wp2_with fail
          refine (LV.out _).mono ?_
          rintro e w6 ⟨rfl, hb6⟩
          go_wp2
          go_ret
          exact ⟨rfl, hb6⟩
    · have BO := Lib.hid (tblock_w width a Z.length cap w hwd)
      have jj : (width < 1) ∨ (¬ width < 1 ∧ 16 < width) := by omega
      clear hG hv hR hg hwd
      rcases jj with j1 | ⟨j1, j2⟩
      · go_enter Try.func4, Try.ntmps4
        go_wp2_with fail
        refine GT.out.mono ?_
        rintro e w1 ⟨rfl, rfl⟩
        go_wp2_with fail
        refine BO.out.mono ?_
        rintro e w2 ⟨rfl, rfl⟩
        go_wp2_with fail
        refine (LV.out _).mono ?_
        rintro e w6 ⟨rfl, hb6⟩
        go_wp2
        go_ret
        exact ⟨rfl, hb6⟩
      · go_enter Try.func4, Try.ntmps4
        go_wp2_with fail
        refine GT.out.mono ?_
        rintro e w1 ⟨rfl, rfl⟩
        go_wp2_with fail
        refine BO.out.mono ?_
        rintro e w2 ⟨rfl, rfl⟩
        go_wp2_with fail
        refine (LV.out _).mono ?_
        rintro e w6 ⟨rfl, hb6⟩
        go_wp2
        go_ret
        exact ⟨rfl, hb6⟩
end Go.Proofs.Ytpcbnoefgknihaa
