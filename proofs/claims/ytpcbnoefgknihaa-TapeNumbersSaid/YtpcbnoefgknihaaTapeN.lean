/- The law TapeNumbers; walked. -/
import Derived.Test.YtpcbnoefgknihaaTapeD
import Derived.Test.YtpcbnoefgknihaaStmA
import Derived.Test.YtpcbnoefgknihaaOgw
namespace Go.Proofs.Ytpcbnoefgknihaa
open Go.ChangeShapes Go.WideShapes Go.ChangeAt Go.RowKit
set_option linter.unusedVariables false
set_option linter.unusedSimpArgs false
/-- A new row without cells. -/
theorem og_new0 (e : TypeId) (w : World) : Below w.heap.size w (w.alloc (.cells #[] e)) ∧ w.heap.size ≤ (w.alloc (.cells #[] e)).heap.size ∧ Og e w.heap.size (.slice (some ⟨w.heap.size, 0, none⟩) 0 0) [] (w.alloc (.cells #[] e)) :=
  ⟨(Below.refl w.heap.size w).alloc (Nat.le_refl _) _, by simp, Og.new e w []⟩
/-- A row cut at its start. -/
theorem row_from {k : IntKind} {w : World} {a : Option Addr} {l : List Int} (h : RowIs k w a l) (i : Nat) : RowIs k w (a.map (·.add i)) (l.drop i) := by
  rcases h with rfl | ⟨b, off, rfl, hlt, hc⟩
  · exact .inl (by simp)
  · by_cases hi : i < l.length
    · refine .inr ⟨b, off + i, by simp [Addr.add_lit], hlt, fun j hj => ?_⟩
      have hj' : i + j < l.length := by simp at hj; omega
      rw [show off + i + j = off + (i + j) by omega, hc (i + j) hj']
      simp [List.getD, List.getElem?_drop]
    · exact .inl (List.drop_eq_nil_of_le (by omega))
set_option maxRecDepth 100000 in
set_option maxHeartbeats 8000000 in
theorem law_TapeNumbers (n : Int) (a : Option Addr) (ca : Nat) (L : List Int) (w : World) (hr : RowIs .u8 w a L) (hcap : L.length ≤ ca) (hB : BYL L) (hL : L.length ≤ maxLen) (g1 : -9223372036854775808 ≤ n) (g2 : n ≤ 9223372036854775807) : Calls Try.prog 3 #[.int .i64 n, .slice a L.length ca] w fun e w' => e = .returned (.bool true) ∧ Below w.heap.size w w' := by
  have LV := Lib.hid (fun u => lives45 u)
  have RW := Lib.hid (fun u (k : Below w.heap.size w u) => hr.below k)
  have RL := Lib.hid (fun (q : 1 ≤ L.length) p (e : a = some p) => row_lt hr q p e)
  have BL := Lib.hid hB
  have HC := Lib.hid hcap
  have HM := Lib.hid hL
  have G1 := Lib.hid g1
  have G2 := Lib.hid g2
  have mA : (L.length : Int) ≤ 9223372036854775807 := by unfold maxLen at hL; omega
  clear hr hB hcap hL g1 g2
  obtain ⟨m, em⟩ : ∃ m, L.length = m := ⟨_, rfl⟩
  have EM := Lib.hid em
  rw [em] at mA ⊢
  by_cases q : 2000 < m
  · have q1 : (2000 : Int) < (m : Int) := by omega
    clear em
    go_enter Try.func3, Try.ntmps3
    go_wp2_with fail
    refine (LV.out _).mono ?_
    rintro e u9 ⟨rfl, hb9⟩
    go_wp2
    go_ret
    exact ⟨rfl, hb9⟩
  · have q1 : ¬ (2000 : Int) < (m : Int) := by omega
    have QM := Lib.hid (show m ≤ 2000 by omega)
    have SU := Lib.hid (fun u (k : Below w.heap.size w u) => tsum a ca L u (RW.out u k) HM.out BL.out.by8)
    have RSU := Lib.hid (fun u (k : Below w.heap.size w u) => rsum a ca L u (RW.out u k) HM.out BL.out.by8)
    rw [EM.out] at SU RSU
    have CRL := Lib.hid (crI_lt L)
    generalize crI L = crc at *
    have TN := Lib.hid (fun (a7 : Option Addr) (c7 : Nat) u (r : RowIs .u8 u a7 L) => tnumber a7 c7 L n u r (by rw [EM.out]; have := QM.out; omega) G1.out G2.out)
    have RN := Lib.hid (fun u => rnumber n u G1.out G2.out)
    have VL := Lib.hid (vn_len (fo n))
    generalize fo n = fn at *
    generalize vn fn = K at *
    have LK := Lib.hid (show (L ++ K).length ≤ 2100 by have := QM.out; have := VL.out; rw [List.length_append, EM.out]; omega)
    obtain ⟨P, eP⟩ : ∃ P, L ++ K = P := ⟨_, rfl⟩
    rw [eP] at TN LK
    obtain ⟨pp, ep⟩ : ∃ p, P.length = p := ⟨_, rfl⟩
    have EP := Lib.hid ep
    have eP := Lib.hid eP
    rw [ep] at LK
    rw [EM.out] at TN
    clear em ep q
    obtain ⟨hA0, hz0, hO0⟩ := og_new0 5 w
    have hO0 := Lib.hid hO0
    have hA0 := Lib.hid hA0
    have hz0 := Lib.hid hz0
    have SR := (RW.out _ hA0.out).src (t := 22) Try.underlying22 ca
    rw [EM.out] at SR
    replace SR := Lib.hid SR
    go_enter Try.func3, Try.ntmps3
    go_wp2_with (first | (at_builtin; go_loud (refine wpList_append_og _ rfl (.tmp 16) (.tmp 17) 22 22 rfl 5 (.int .u8 0) 1 Try.underlying22 (by kernel_rfl) rfl w.heap.size _ _ rfl hO0.out hz0.out _ _ _ rfl SR.out (by simp; have := QM.out; unfold maxLen; omega) (by simp; have := QM.out; omega) ?_; intro x7 w7 hO7 hK7 hN7)) | fail)
    have hb7 := Lib.hid (show Below w.heap.size w w7 from hA0.out.trans (hK7.below hO0.out hz0.out))
    rw [List.nil_append] at hO7
    obtain ⟨a7, c7, ex7, -, r7, -, -⟩ := hO7.rowIs
    rw [EM.out] at ex7
    subst ex7
    have N1 := Lib.hid (TN.out a7 c7 w7 r7)
    clear hO7 hK7 hN7 r7 hA0 hz0 hO0 SR TN
    go_wp2_with fail
    refine N1.out.mono ?_
    rintro e w8 ⟨x8, rfl, hO8, hb8⟩
    clear N1
    have hw8 := Lib.hid (show Below w.heap.size w w8 from hb7.out.trans (hb8.mono hb7.out.size))
    obtain ⟨a8, c8, ex8, -, r8, -, -⟩ := hO8.rowIs
    have R8 := Lib.hid (fun u (k : Below w8.heap.size w8 u) => r8.below k)
    rw [EP.out] at ex8
    clear hO8 hb8 hb7 r8
    subst ex8
    obtain ⟨hA0, hz0, hO0⟩ := og_new0 5 w8
    have hO0 := Lib.hid hO0
    have hA0 := Lib.hid hA0
    have hz0 := Lib.hid hz0
    have SR := (RW.out _ (hw8.out.trans (hA0.out.mono hw8.out.size))).src (t := 22) Try.underlying22 ca
    rw [EM.out] at SR
    replace SR := Lib.hid SR
    go_wp2_with (first | (at_builtin; go_loud (refine wpList_append_og _ rfl (.tmp 21) (.tmp 22) 22 22 rfl 5 (.int .u8 0) 1 Try.underlying22 (by kernel_rfl) rfl w8.heap.size _ _ rfl hO0.out hz0.out _ _ _ rfl SR.out (by simp; have := QM.out; unfold maxLen; omega) (by simp; have := QM.out; omega) ?_; intro x9 w9 hO7 hK7 hN7)) | fail)
    have P9 := Lib.hid (show Below w8.heap.size w8 w9 from hA0.out.trans (hK7.below hO0.out hz0.out))
    rw [List.nil_append] at hO7
    have hO9 := Lib.hid hO7
    clear hO7 hK7 hN7 hA0 hz0 hO0 SR
    refine (RN.out w9).mono ?_
    rintro e w10 ⟨x10, rfl, hO10, hb10⟩
    have hO9 := Lib.hid (hO9.out.bel hb10)
    have hz9 := Lib.hid (show w8.heap.size ≤ w10.heap.size by have := P9.out.size; have := hb10.size; omega)
    have P10 := Lib.hid (show Below w8.heap.size w8 w10 from P9.out.trans (hb10.mono P9.out.size))
    have SR := Lib.hid (hO10.src (t := 22) Try.underlying22 (nvals_one _ _))
    clear hO10 hb10 P9
    go_wp2_with (first | (at_builtin; go_loud (refine wpList_append_og _ rfl (.tmp 23) (.tmp 25) 22 22 rfl 5 (.int .u8 0) 1 Try.underlying22 (by kernel_rfl) rfl w8.heap.size _ _ rfl hO9.out hz9.out _ _ _ rfl SR.out (by rw [nvals_len, nvals_len, EM.out]; have := QM.out; have := VL.out; unfold maxLen; omega) (by rw [nvals_len, nvals_len, EM.out]; have := QM.out; have := VL.out; omega) ?_; intro x11 w11 hO7 hK7 hN7)) | fail)
    have P11 := Lib.hid (show Below w8.heap.size w8 w11 from P10.out.trans (hK7.below hO9.out hz9.out))
    rw [← nvals_app, eP.out] at hO7
    obtain ⟨a11, c11, ex11, -, r11, -, -⟩ := hO7.rowIs
    rw [EP.out] at ex11
    subst ex11
    have R11 := Lib.hid (fun u (k : Below w11.heap.size w11 u) => r11.below k)
    have hw11 := Lib.hid (show Below w.heap.size w w11 from hw8.out.trans (P11.out.mono hw8.out.size))
    have T2 := ttake a ca L w11 (RW.out w11 hw11.out) HC.out (fun q p e => by have := RL.out q p e; have := hw11.out.size; omega) (by rw [EM.out]; have := QM.out; omega) BL.out
    rw [EM.out] at T2
    replace T2 := Lib.hid T2
    clear hO7 hK7 hN7 hO9 hz9 SR r11 P10
    have RT := rtake a ca L 0
    rw [List.drop_zero, EM.out] at RT
    replace RT := Lib.hid (fun u (k : Below w.heap.size w u) => RT u (RW.out u k) (Nat.zero_le _) (by have := QM.out; omega) BL.out)
    have RB := Lib.hid (fun u (k : Below w8.heap.size w8 u) (k2 : Below w11.heap.size w11 u) => rbytes a8 a11 c8 c11 P u (R8.out u k) (R11.out u k2) (by rw [EP.out]; have := LK.out; unfold maxLen; omega))
    rw [EP.out] at RB
    have cw1 : IntKind.i64.wrap (crc : Int) = (crc : Int) := by have := CRL.out; rw [IntKind.wrap_i64]; omega
    go_wp2_with fail
    refine T2.out.mono ?_
    rintro e w12 ⟨hb12, ⟨h, rfl⟩ | ⟨c, k, x4, h, hc, hk1, hk2, rfl, hO4⟩⟩
    · have hw12 := Lib.hid (show Below w.heap.size w w12 from hw11.out.trans (hb12.mono hw11.out.size))
      have hv12 := Lib.hid (show Below w8.heap.size w8 w12 from P11.out.trans (hb12.mono P11.out.size))
      have RT1 := Lib.hid (RT.out w12 hw12.out)
      have RB1 := Lib.hid (RB.out w12 hv12.out hb12)
      clear hb12 T2 RT RB P11
      go_wp2_with fail
      refine RT1.out.mono ?_
      rintro e w13 ⟨rfl, ⟨-, rfl⟩ | ⟨c, k, h2, -, -, -, rfl⟩⟩
      rotate_left
      · rw [h] at h2; cases h2
      clear RT1
      go_wp2_with fail
      refine RB1.out.mono ?_
      rintro e w14 ⟨rfl, hb14⟩
      clear RB1
      have hw14 := Lib.hid (show Below w.heap.size w w14 from hw12.out.trans (hb14.mono hw12.out.size))
      clear hb14 hv12
      have S1 := Lib.hid (SU.out w14 hw14.out)
      have S2 := Lib.hid (RSU.out w14 hw14.out)
      go_wp2_with fail
      refine S1.out.mono ?_
      rintro e w15 ⟨rfl, rfl⟩
      clear S1
      go_wp2_with fail
      refine S2.out.mono ?_
      rintro e w16 ⟨rfl, rfl⟩
      clear S2
      go_wp2_with fail
      refine (LV.out _).mono ?_
      rintro e u9 ⟨rfl, hb9⟩
      have hb8 := Lib.hid (show Below w.heap.size w u9 from hw14.out.trans (hb9.mono hw14.out.size))
      clear hb9
      go_wp2
      go_ret
      exact ⟨rfl, hb8.out⟩
    · have hw12 := Lib.hid (show Below w.heap.size w w12 from hw11.out.trans (hb12.mono hw11.out.size))
      have hv12 := Lib.hid (show Below w8.heap.size w8 w12 from P11.out.trans (hb12.mono P11.out.size))
      have RT1 := Lib.hid (RT.out w12 hw12.out)
      have RB1 := Lib.hid (RB.out w12 hv12.out hb12)
      clear hb12 T2 RT RB P11
      go_wp2_with fail
      refine RT1.out.mono ?_
      rintro e w13 ⟨rfl, ⟨h2, -⟩ | ⟨c', k', h2, -, -, -, rfl⟩⟩
      · rw [h] at h2; cases h2
      rw [h] at h2
      injection h2 with h2
      injection h2 with e1 e2
      subst e1 e2
      rw [Nat.zero_add]
      clear RT1
      obtain ⟨Q, eQ⟩ : ∃ Q, L.drop k = Q := ⟨_, rfl⟩
      have QL : Q.length = m - k := by rw [← eQ, List.length_drop, EM.out]
      rw [eQ] at hO4
      obtain ⟨a4, c4, ex4, -, r4, -, -⟩ := hO4.rowIs
      rw [QL] at ex4
      subst ex4
      have R4 := Lib.hid (fun u (k : Below w12.heap.size w12 u) => r4.below k)
      have eQ := Lib.hid eQ
      have QL := Lib.hid QL
      clear hO4 r4 h hc
      go_wp2_with fail
      refine RB1.out.mono ?_
      rintro e w14 ⟨rfl, hb14⟩
      clear RB1
      have hw14 := Lib.hid (show Below w.heap.size w w14 from hw12.out.trans (hb14.mono hw12.out.size))
      have R5 := R4.out w14 hb14
      have R5 := Lib.hid R5
      clear hb14 hv12 R4
      have S1 := Lib.hid (SU.out w14 hw14.out)
      have S2 := Lib.hid (RSU.out w14 hw14.out)
      go_wp2_with fail
      refine S1.out.mono ?_
      rintro e w15 ⟨rfl, rfl⟩
      clear S1
      go_wp2_with fail
      refine S2.out.mono ?_
      rintro e w16 ⟨rfl, rfl⟩
      clear S2
      have k0 : (0 : Int) ≤ (k : Int) := by omega
      have k3 : (k : Int) ≤ (m : Int) := by omega
      have kc : k ≤ ca := by have := HC.out; have := EM.out; omega
      have k4 : (m : Int) ≤ (ca : Int) := by have := HC.out; have := EM.out; omega
      rcases Nat.lt_or_ge k ca with kq | kq
      · have kn : ¬ (ca - k = 0) := by omega
        have B2 := rbytes a4 (a.map (·.add k)) c4 (ca - k) Q w14 R5.out (by rw [← eQ.out]; exact row_from (RW.out w14 hw14.out) k) (by rw [QL.out]; have := QM.out; unfold maxLen; omega)
        rw [QL.out] at B2
        replace B2 := Lib.hid B2
        clear R5
        go_wp2_with fail
        refine B2.out.mono ?_
        rintro e w17 ⟨rfl, hb17⟩
        have hw17 := Lib.hid (show Below w.heap.size w w17 from hw14.out.trans (hb17.mono hw14.out.size))
        clear hb17 B2
        go_wp2_with fail
        refine (LV.out _).mono ?_
        rintro e u9 ⟨rfl, hb9⟩
        have hb8 := Lib.hid (show Below w.heap.size w u9 from hw17.out.trans (hb9.mono hw17.out.size))
        clear hb9
        go_wp2
        go_ret
        exact ⟨rfl, hb8.out⟩
      · have kn : ca - k = 0 := by omega
        have ke : k = ca := by have := HC.out; have := EM.out; omega
        subst ke
        have B2 := rbytes a4 a c4 0 Q w14 R5.out (.inl (List.eq_nil_of_length_eq_zero (by rw [QL.out]; omega))) (by rw [QL.out]; have := QM.out; unfold maxLen; omega)
        rw [QL.out] at B2
        replace B2 := Lib.hid B2
        clear R5
        go_wp2_with fail
        refine B2.out.mono ?_
        rintro e w17 ⟨rfl, hb17⟩
        have hw17 := Lib.hid (show Below w.heap.size w w17 from hw14.out.trans (hb17.mono hw14.out.size))
        clear hb17 B2
        go_wp2_with fail
        refine (LV.out _).mono ?_
        rintro e u9 ⟨rfl, hb9⟩
        have hb8 := Lib.hid (show Below w.heap.size w u9 from hw17.out.trans (hb9.mono hw17.out.size))
        clear hb9
        go_wp2
        go_ret
        exact ⟨rfl, hb8.out⟩
end Go.Proofs.Ytpcbnoefgknihaa
