/- The law TapeWrites; walked. -/
import Derived.Test.YtpcbnoefgknihaaTapeW
namespace Go.Proofs.Ytpcbnoefgknihaa
open Go.ChangeShapes Go.WideShapes Go.ChangeAt Go.RowKit
set_option linter.unusedVariables false
set_option linter.unusedSimpArgs false
set_option maxRecDepth 100000 in
set_option maxHeartbeats 8000000 in
theorem law_TapeWrites (width : Int) (a : Option Addr) (A : Nat → Option Addr) (C : Nat → Nat) (Z : List (List Int)) (cap : Nat) (w : World) (hG : GridIs .i64 w a A C Z) (hcap : Z.length ≤ cap) (hZ : Z.length ≤ maxLen) (hv : ∀ i, i < Z.length → (Z.getD i []).length ≤ maxLen ∧ ∀ n ∈ Z.getD i [], (Lit.int .i64 n).wf = true) : Calls Try.prog 6 #[.int .i64 width, .slice a Z.length cap] w fun e w' => e = .returned (.bool true) ∧ Below w.heap.size w w' := by
  have LV := Lib.hid (fun u => lives45 u)
  have hR : ∀ i, i < Z.length → (Z.getD i []).length ≤ maxLen := fun i hi => (hv i hi).1
  have GT := lgreat a A C Z cap w hG hZ hR
  have hZ' : (Z.length : Int) ≤ 9223372036854775807 := by unfold maxLen at hZ; omega
  have hw0 := Lib.hid (Below.refl w.heap.size w)
  by_cases hg : grtB Z = true
  · rw [hg] at GT
    replace GT := Lib.hid GT
    clear hG hv hR hg
    go_enter Try.func6, Try.ntmps6
    go_wp2_with fail
    refine GT.out.mono ?_
    rintro e w1 ⟨rfl, rfl⟩
    go_wp2_with fail
    refine (LV.out _).mono ?_
    rintro e u9 ⟨rfl, hb9⟩
    have hb8 := Lib.hid (show Below w.heap.size w u9 from hw0.out.trans (hb9.mono hw0.out.size))
    clear hb9
    go_wp2
    go_ret
    exact ⟨rfl, hb8.out⟩
  rw [Bool.eq_false_iff.2 hg] at GT
  replace GT := Lib.hid GT
  by_cases hwd : 1 ≤ width ∧ width ≤ 16
  rotate_left
  · have BO := Lib.hid (twrite_w width a Z.length cap w hwd)
    have jj : (width < 1) ∨ (¬ width < 1 ∧ 16 < width) := by omega
    clear hG hv hR hg hwd
    rcases jj with j1 | ⟨j1, j2⟩
    · skip
      go_enter Try.func6, Try.ntmps6
      go_wp2_with fail
      refine GT.out.mono ?_
      rintro e w1 ⟨rfl, rfl⟩
      go_wp2_with fail
      refine BO.out.mono ?_
      rintro e w2 ⟨rfl, hb⟩
      replace hb := Lib.hid hb
      go_wp2_with fail
      refine (LV.out _).mono ?_
      rintro e u9 ⟨rfl, hb9⟩
      have hb8 := Lib.hid (show Below w.heap.size w u9 from hb.out.trans (hb9.mono hb.out.size))
      clear hb9
      go_wp2
      go_ret
      exact ⟨rfl, hb8.out⟩
    · skip
      have d1 : decide (width < 1) = false := decide_eq_false j1
      have d2 : decide ((16 : Int) < width) = true := decide_eq_true j2
      go_enter Try.func6, Try.ntmps6
      go_wp2_with fail
      refine GT.out.mono ?_
      rintro e w1 ⟨rfl, rfl⟩
      go_wp2_with fail
      refine BO.out.mono ?_
      rintro e w2 ⟨rfl, hb⟩
      replace hb := Lib.hid hb
      go_wp2_with fail
      refine (LV.out _).mono ?_
      rintro e u9 ⟨rfl, hb9⟩
      have hb8 := Lib.hid (show Below w.heap.size w u9 from hb.out.trans (hb9.mono hb.out.size))
      clear hb9
      go_wp2
      go_ret
      exact ⟨rfl, hb8.out⟩
  obtain ⟨wd, rfl⟩ := Int.eq_ofNat_of_zero_le (show 0 ≤ width by omega)
  have hwd : 1 ≤ wd ∧ wd ≤ 16 := by omega
  have k1 : ¬ (wd : Int) < 1 := by omega
  have k2 : ¬ (16 : Int) < (wd : Int) := by omega
  have k3 : decide ((wd : Int) < 1) = false := decide_eq_false k1
  have k4 : decide ((16 : Int) < (wd : Int)) = false := decide_eq_false k2
  have RFu := Lib.hid (fun u (b : Below w.heap.size w u) => rfits (wd : Int) a A C Z cap u (hG.below b) hZ hR)
  by_cases hn : 1000 < Z.length
  · have BO := Lib.hid (twrite_l wd a A C Z cap w hG hwd hZ hR (.inl hn))
    have j1 : (1000 : Int) < (Z.length : Int) := by omega
    have j2 : decide ((1000 : Int) < (Z.length : Int)) = true := decide_eq_true j1
    clear hG hv hR hg RFu hn
    go_enter Try.func6, Try.ntmps6
    go_wp2_with fail
    refine GT.out.mono ?_
    rintro e w1 ⟨rfl, rfl⟩
    go_wp2_with fail
    refine BO.out.mono ?_
    rintro e w2 ⟨rfl, hb⟩
    replace hb := Lib.hid hb
    go_wp2_with fail
    refine (LV.out _).mono ?_
    rintro e u9 ⟨rfl, hb9⟩
    have hb8 := Lib.hid (show Below w.heap.size w u9 from hb.out.trans (hb9.mono hb.out.size))
    clear hb9
    go_wp2
    go_ret
    exact ⟨rfl, hb8.out⟩
  have j1 : ¬ (1000 : Int) < (Z.length : Int) := by omega
  have j2 : decide ((1000 : Int) < (Z.length : Int)) = false := decide_eq_false j1
  by_cases hf : fitB (wd : Int) Z = true
  rotate_left
  · have hf' := Bool.eq_false_iff.2 hf
    have BO := Lib.hid (twrite_l wd a A C Z cap w hG hwd hZ hR (.inr hf'))
    rw [hf'] at RFu
    clear hG hv hR hg hf hf' hn
    go_enter Try.func6, Try.ntmps6
    go_wp2_with fail
    refine GT.out.mono ?_
    rintro e w1 ⟨rfl, rfl⟩
    go_wp2_with fail
    refine BO.out.mono ?_
    rintro e w2 ⟨rfl, hb⟩
    replace hb := Lib.hid hb
    have RF2 := Lib.hid (RFu.out w2 hb.out)
    go_wp2_with fail
    refine RF2.out.mono ?_
    rintro e w3 ⟨rfl, rfl⟩
    clear RF2 RFu
    go_wp2_with fail
    refine (LV.out _).mono ?_
    rintro e u9 ⟨rfl, hb9⟩
    have hb8 := Lib.hid (show Below w.heap.size w u9 from hb.out.trans (hb9.mono hb.out.size))
    clear hb9
    go_wp2
    go_ret
    exact ⟨rfl, hb8.out⟩
  rw [hf] at RFu
  have BO := Lib.hid (twrite_ok wd a A C Z cap w hG hcap hwd (by omega) hR hf)
  have RB := Lib.hid (fun u (b : Below w.heap.size w u) j => rblock wd (a.map (·.add (50 * j))) (fun i => A (50 * j + i)) (fun i => C (50 * j + i)) (ptZ Z j) (cap - 50 * j) u (grid_part (hG.below b) j) hwd.1 hwd.2 (by rw [ptZ_len]; omega) (fit_part hf j) (fun i hi n hm => by rw [ptZ_at Z j hi] at hm; exact i64_bd ((hv _ (by rw [ptZ_len] at hi; omega)).2 n hm)))
  have WL := Lib.hid (wt_len (Z := Z) hwd.2 hf)
  have BL := Lib.hid (fun j => (bk_len (Z := ptZ Z j) hwd.2 (fit_part hf j) (by rw [ptZ_len]; omega)).1)
  have HC := Lib.hid hcap
  have HN := Lib.hid (show Z.length ≤ 1000 by omega)
  clear hG hv hR hg hf hn hcap hwd
  obtain ⟨n, en⟩ : ∃ n, Z.length = n := ⟨_, rfl⟩
  have EN := Lib.hid en
  rw [en] at GT BO RFu HC HN j1 j2 hZ' ⊢
  clear en hZ
  go_enter Try.func6, Try.ntmps6
  go_wp2_with fail
  refine GT.out.mono ?_
  rintro e w1 ⟨rfl, rfl⟩
  go_wp2_with fail
  refine BO.out.mono ?_
  rintro e w2 ⟨x1, rfl, hO, hb⟩
  replace hb := Lib.hid hb
  have YG := Lib.hid (fun u (k : Below w2.heap.size w2 u) => hO.bel k)
  have RF2 := Lib.hid (RFu.out w2 hb.out)
  go_wp2_with fail
  refine RF2.out.mono ?_
  rintro e w3 ⟨rfl, rfl⟩
  clear RF2 RFu hO BO
  go_wp2_with fail
  go_loopw [7, 8] (fun y i v => ∃ (k j : Nat) (x' : Value), y = x' ∧ i = .int .i64 (j : Int) ∧ 50 * k = j ∧ k ≤ ckN n ∧ Hid (Og 5 w2.heap.size x' (nvals .u8 (wtB wd Z k)) v) ∧ Hid (Below w2.heap.size w2 v)) (fun _ i _ => n + 50 - (intOf i).toNat)
  case atStart => exact ⟨0, 0, _, rfl, rfl, by omega, by omega, Lib.hid (Og.nil _ _ _), Lib.hid (Below.refl _ _)⟩
  case round =>
    obtain ⟨k, j, x', rfl, rfl, hjk, hk, hO, h2⟩ := hrel
    generalize wr = v at *
    have hwv := Lib.hid (show Below w.heap.size w v from hb.out.trans (h2.out.mono hb.out.size))
    by_cases hlt : j < n
    · have i1 : (j : Int) < (n : Int) := by omega
      have T := RB.out v hwv.out k
      rw [ptZ_len, EN.out, hjk] at T
      obtain ⟨m, em⟩ : ∃ z, j + min 50 (n - j) = z := ⟨_, rfl⟩
      rw [show min 50 (n - j) = m - j by omega] at T
      replace T := Lib.hid T
      obtain ⟨j5, ej5⟩ : ∃ z, j + 50 = z := ⟨_, rfl⟩
      have wj : IntKind.i64.wrap ((j : Int) + 50) = (j5 : Int) := by have := HN.out; rw [IntKind.wrap_i64]; omega
      have eI : min (n : Int) (j5 : Int) = (m : Int) := by omega
      have e0 : (0 : Int) ≤ (j : Int) := by omega
      have e1 : (j : Int) ≤ (m : Int) := by omega
      have e2 : (m : Int) ≤ (cap : Int) := by have := HC.out; omega
      have e3 : ¬ (cap = j) := by have := HC.out; omega
      have e6 : (0 : Int) ≤ (m : Int) := by omega
      have JK := Lib.hid (show 50 * (k + 1) = j5 by omega)
      have JN := Lib.hid (show j5 < n + 50 ∧ j < j5 by omega)
      have KN := Lib.hid (show k + 1 ≤ ckN n by unfold ckN; omega)
      clear em ej5 hjk
      go_wp2_with fail
      refine T.out.mono ?_
      rintro e v2 ⟨x2, rfl, hO2, hb2⟩
      have hO8 := Lib.hid (hO.out.bel hb2)
      have hz8 := Lib.hid (show w2.heap.size ≤ v2.heap.size by have := h2.out.size; have := hb2.size; omega)
      have h28 := Lib.hid (show Below w2.heap.size w2 v2 from h2.out.trans (hb2.mono h2.out.size))
      have SR := Lib.hid (hO2.src (t := 22) Try.underlying22 (nvals_one _ _))
      clear hO2 hb2 hO h2 hwv T
      go_wp2_with (first | (at_builtin; go_loud (refine wpList_append_og _ rfl (.tmp 59) (.tmp 68) 22 22 rfl 5 (.int .u8 0) 1 Try.underlying22 (by kernel_rfl) rfl w2.heap.size _ _ rfl hO8.out hz8.out _ _ _ rfl SR.out (by rw [nvals_len, nvals_len]; have := WL.out k; have := BL.out k; have := HN.out; have := KN.out; unfold ckN at this; unfold maxLen; omega) (by rw [nvals_len, nvals_len]; have := WL.out k; have := BL.out k; have := HN.out; have := KN.out; unfold ckN at this; omega) ?_; intro x7 w7 hO7 hK7 hN7)) | fail)
      have r1 := Lib.hid (show Og 5 w2.heap.size x7 (nvals .u8 (wtB wd Z (k + 1))) w7 by rw [show wtB wd Z (k + 1) = wtB wd Z k ++ bkB wd (ptZ Z k) from rfl, nvals_app]; exact hO7)
      have r2 := Lib.hid (show Below w2.heap.size w2 w7 from h28.out.trans (hK7.below hO8.out hz8.out))
      clear hO7 hK7 hN7 hO8 hz8 h28 SR
      exact ⟨⟨k + 1, j5, x7, rfl, rfl, JK.out, KN.out, r1, r2⟩, by have := JN.out; simp [intOf]; omega⟩
    · obtain rfl : k = ckN n := by unfold ckN at hk ⊢; omega
      have i1 : ¬ (j : Int) < (n : Int) := by omega
      have hO1 := YG.out v h2.out
      obtain ⟨a1, c1, ex1, -, r1, -, -⟩ := hO1.rowIs
      subst ex1
      obtain ⟨a2, c2, rfl, -, r2, -, -⟩ := hO.out.rowIs
      have e20 : ckN n ≤ 20 := by have := HN.out; unfold ckN; omega
      have BY := Lib.hid (rbytes a1 a2 c1 c2 (wtB wd Z (ckN n)) v r1 r2 (by have := WL.out (ckN n); unfold maxLen; omega))
      clear e20
      clear hO1 r1 r2 hO h2
      go_wp2_with fail
      refine BY.out.mono ?_
      rintro e w5 ⟨rfl, hb5⟩
      have hw8 := Lib.hid (show Below w.heap.size w w5 from hwv.out.trans (hb5.mono hwv.out.size))
      clear hb5 BY
      go_wp2_with fail
      refine (LV.out _).mono ?_
      rintro e u9 ⟨rfl, hb9⟩
      have hb8 := Lib.hid (show Below w.heap.size w u9 from hw8.out.trans (hb9.mono hw8.out.size))
      clear hb9
      go_wp2
      go_ret
      exact ⟨rfl, hb8.out⟩
end Go.Proofs.Ytpcbnoefgknihaa
