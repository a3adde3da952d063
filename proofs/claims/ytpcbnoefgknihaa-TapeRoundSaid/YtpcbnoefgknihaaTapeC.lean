/- The law TapeRound; walked. -/
import Derived.Test.YtpcbnoefgknihaaTapeB
import Derived.Test.YtpcbnoefgknihaaStmA
import Derived.Test.YtpcbnoefgknihaaOgw
namespace Go.Proofs.Ytpcbnoefgknihaa
open Go.ChangeShapes Go.WideShapes Go.ChangeAt Go.RowKit
set_option linter.unusedVariables false
set_option linter.unusedSimpArgs false
set_option maxRecDepth 100000 in
set_option maxHeartbeats 8000000 in
theorem law_TapeRound (n : Int) (a : Option Addr) (ca : Nat) (L : List Int) (w : World) (hr : RowIs .u8 w a L) (hcap : L.length ≤ ca) (hB : BYL L) (hL : L.length ≤ maxLen) (g1 : -9223372036854775808 ≤ n) (g2 : n ≤ 9223372036854775807) : Calls Try.prog 8 #[.int .i64 n, .slice a L.length ca] w fun e w' => e = .returned (.bool true) ∧ Below w.heap.size w w' := by
  have LV := Lib.hid (fun u => lives45 u)
  have RW := Lib.hid (fun u (k : Below w.heap.size w u) => hr.below k)
  have RL := Lib.hid (fun (q : 1 ≤ L.length) p (e : a = some p) => row_lt hr q p e)
  have BL := Lib.hid hB
  have HC := Lib.hid hcap
  have HM := Lib.hid hL
  have G1 := Lib.hid g1
  have G2 := Lib.hid g2
  have mA : (L.length : Int) ≤ 9223372036854775807 := by unfold maxLen at hL; omega
  clear hr hB hcap hL g1 g2
  obtain ⟨m, em⟩ : ∃ m, L.length = m := ⟨_, rfl⟩
  have EM := Lib.hid em
  rw [em] at mA ⊢
  by_cases q : 2000 < m
  · have q1 : (2000 : Int) < (m : Int) := by omega
    clear em
    go_enter Try.func8, Try.ntmps8
    go_wp2_with fail
    refine (LV.out _).mono ?_
    rintro e u9 ⟨rfl, hb9⟩
    go_wp2
    go_ret
    exact ⟨rfl, hb9⟩
  · have q1 : ¬ (2000 : Int) < (m : Int) := by omega
    have QM := Lib.hid (show m ≤ 2000 by omega)
    have N1 := Lib.hid (show Calls Try.prog 15 #[.slice none 0 0, .int .i64 n] w fun e w' => ∃ x', e = .returned x' ∧ Og 5 w.heap.size x' (nvals .u8 (vn (fo n))) w' ∧ Below w.heap.size w w' from tnumber none 0 [] n w (.inl rfl) (by simp) G1.out G2.out)
    have VL := Lib.hid (vn_len (fo n))
    have VB := Lib.hid (vn_byl (fo_lt G1.out G2.out))
    have TK := Lib.hid (tk_vn (fo_lt G1.out G2.out) L)
    have UN := Lib.hid (unfo_fo G1.out G2.out)
    generalize fo n = fn at *
    generalize vn fn = K at *
    clear em q
    go_enter Try.func8, Try.ntmps8
    go_wp2_with fail
    refine N1.out.mono ?_
    rintro e w1 ⟨x1, rfl, hO1, hb1⟩
    clear N1
    have hO1 := Lib.hid hO1
    have hb1 := Lib.hid hb1
    have hz1 := Lib.hid (show w.heap.size ≤ w1.heap.size from hb1.out.size)
    have SR := (RW.out w1 hb1.out).src (t := 22) Try.underlying22 ca
    rw [EM.out] at SR
    replace SR := Lib.hid SR
    go_wp2_with (first | (at_builtin; go_loud (refine wpList_append_og _ rfl (.tmp 17) (.tmp 18) 22 22 rfl 5 (.int .u8 0) 1 Try.underlying22 (by kernel_rfl) rfl w.heap.size _ _ rfl hO1.out hz1.out _ _ _ rfl SR.out (by rw [nvals_len]; have := VL.out; have := QM.out; unfold maxLen; omega) (by rw [nvals_len]; have := VL.out; have := QM.out; omega) ?_; intro x7 w7 hO7 hK7 hN7)) | fail)
    rw [← nvals_app] at hO7
    have hb7 := Lib.hid (show Below w.heap.size w w7 from hb1.out.trans (hK7.below hO1.out hz1.out))
    have ha7 := Lib.hid (fun g (e : ogB x7 = some g) => (hO7.lt e).2)
    obtain ⟨a7, c7, rfl, hc7, r7, -, -⟩ := hO7.rowIs
    have T1 := Lib.hid (ttake a7 c7 (K ++ L) w7 r7 hc7 (fun _ p e => by subst e; exact ha7.out p.block rfl) (by rw [List.length_append, EM.out]; have := VL.out; have := QM.out; omega) (BYL.app VB.out BL.out))
    clear hO7 hK7 hN7 hO1 hz1 SR hb1 ha7 hc7 r7
    go_wp2_with fail
    refine T1.out.mono ?_
    rintro e w2 ⟨hb2, ⟨h, -⟩ | ⟨c, k, x2, h, -, -, -, rfl, hO2⟩⟩
    · rw [TK.out] at h; cases h
    rw [TK.out] at h
    injection h with h
    injection h with e1 e2
    subst e1 e2
    rw [List.drop_left] at hO2
    rw [UN.out]
    clear T1
    obtain ⟨a2, c2, ex2, -, r2, -, -⟩ := hO2.rowIs
    rw [EM.out] at ex2
    subst ex2
    have hw2 := Lib.hid (show Below w.heap.size w w2 from hb7.out.trans (hb2.mono hb7.out.size))
    have B1 := rbytes a2 a c2 ca L w2 r2 (RW.out w2 hw2.out) HM.out
    rw [EM.out] at B1
    replace B1 := Lib.hid B1
    clear hO2 r2 hb2 hb7
    go_wp2_with fail
    refine B1.out.mono ?_
    rintro e w3 ⟨rfl, hb3⟩
    clear B1
    have hw3 := Lib.hid (show Below w.heap.size w w3 from hw2.out.trans (hb3.mono hw2.out.size))
    clear hb3 hw2
    have T2 := ttake a ca L w3 (RW.out w3 hw3.out) HC.out (fun q p e => by have := RL.out q p e; have := hw3.out.size; omega) (by rw [EM.out]; have := QM.out; omega) BL.out
    rw [EM.out] at T2
    replace T2 := Lib.hid T2
    go_wp2_with fail
    refine T2.out.mono ?_
    rintro e w4 ⟨hb4, ⟨-, rfl⟩ | ⟨c, k, x4, h, hc, -, -, rfl, hO4⟩⟩
    · have hw4 := Lib.hid (show Below w.heap.size w w4 from hw3.out.trans (hb4.mono hw3.out.size))
      clear hb4 T2
      go_wp2_with fail
      refine (LV.out _).mono ?_
      rintro e u9 ⟨rfl, hb9⟩
      have hb8 := Lib.hid (show Below w.heap.size w u9 from hw4.out.trans (hb9.mono hw4.out.size))
      clear hb9
      go_wp2
      go_ret
      exact ⟨rfl, hb8.out⟩
    · have hw4 := Lib.hid (show Below w.heap.size w w4 from hw3.out.trans (hb4.mono hw3.out.size))
      have VT := Lib.hid (vn_tk BL.out h)
      have ub := unfo_bd hc
      have N2 := Lib.hid (show Calls Try.prog 15 #[.slice none 0 0, .int .i64 (unfo c)] w4 fun e w' => ∃ x', e = .returned x' ∧ Og 5 w4.heap.size x' (nvals .u8 (vn c)) w' ∧ Below w4.heap.size w4 w' from by have := tnumber none 0 [] (unfo c) w4 (.inl rfl) (by simp) ub.1 ub.2; rw [fo_unfo hc] at this; exact this)
      have VL2 := Lib.hid (vn_len c)
      have RLN := Lib.hid (show (L.drop k).length ≤ 2000 by rw [List.length_drop, EM.out]; have := QM.out; omega)
      generalize L.drop k = R at *
      generalize unfo c = U at *
      generalize vn c = K2 at *
      have hO4 := Lib.hid hO4
      clear hb4 T2 h hc ub
      go_wp2_with fail
      refine N2.out.mono ?_
      rintro e w5 ⟨x5, rfl, hO5, hb5⟩
      clear N2
      have hw5 := Lib.hid (show Below w.heap.size w w5 from hw4.out.trans (hb5.mono hw4.out.size))
      have hO5 := Lib.hid (hO5.mono (B' := w.heap.size) hw4.out.size)
      have hz5 := Lib.hid (show w.heap.size ≤ w5.heap.size from hw5.out.size)
      have SR := Lib.hid ((hO4.out.bel hb5).src (t := 22) Try.underlying22 (fun u hu => by obtain ⟨q, -, rfl⟩ := List.mem_map.1 hu; rfl))
      clear hb5 hO4
      go_wp2_with (first | (at_builtin; go_loud (refine wpList_append_ogw _ (by rfl) (.tmp 47) (.tmp 48) 22 22 rfl 5 (.int .u8 0) 1 Try.underlying22 (by kernel_rfl) rfl w.heap.size _ _ rfl hO5.out hz5.out _ _ _ rfl SR.out (by rw [nvals_len, nvals_len]; have := VL2.out; have := RLN.out; unfold maxLen; omega) (by rw [nvals_len, nvals_len]; have := VL2.out; have := RLN.out; omega) ?_; intro x7 w7 hO7 hK7 hN7)) | fail)
      rw [← nvals_app, ← VT.out] at hO7
      have hb7 := Lib.hid (show Below w.heap.size w w7 from hw5.out.trans (hK7.below hO5.out hz5.out))
      obtain ⟨a7, c7, ex7, -, r7, -, -⟩ := hO7.rowIs
      rw [EM.out] at ex7
      subst ex7
      have B2 := rbytes a7 a c7 ca L w7 r7 (RW.out w7 hb7.out) HM.out
      rw [EM.out] at B2
      replace B2 := Lib.hid B2
      clear hO7 hK7 hN7 hO5 hz5 SR r7 hw5
      go_wp2_with fail
      refine B2.out.mono ?_
      rintro e w8 ⟨rfl, hb8⟩
      clear B2
      have hw8 := Lib.hid (show Below w.heap.size w w8 from hb7.out.trans (hb8.mono hb7.out.size))
      clear hb8 hb7
      go_wp2_with fail
      refine (LV.out _).mono ?_
      rintro e u9 ⟨rfl, hb9⟩
      have hb8 := Lib.hid (show Below w.heap.size w u9 from hw8.out.trans (hb9.mono hw8.out.size))
      clear hb9
      go_wp2
      go_ret
      exact ⟨rfl, hb8.out⟩
end Go.Proofs.Ytpcbnoefgknihaa
