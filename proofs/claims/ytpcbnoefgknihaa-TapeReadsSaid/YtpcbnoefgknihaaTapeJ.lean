/- The law TapeReads; walked. -/
import Derived.Test.YtpcbnoefgknihaaTapeH
import Derived.Test.YtpcbnoefgknihaaTapeI
import Derived.Test.YtpcbnoefgknihaaTapeS
import Derived.Test.YtpcbnoefgknihaaStmA
namespace Go.Proofs.Ytpcbnoefgknihaa
open Go.ChangeShapes Go.WideShapes Go.ChangeAt Go.RowKit
set_option linter.unusedVariables false
set_option linter.unusedSimpArgs false
theorem rdA_rows (width : Nat) : ∀ (n : Nat) (L : List Int), (∀ R ∈ (rdA width n L).2.2, R.length = width) ∧ (rdA width n L).2.2.length ≤ 50 * L.length
  | 0, L => by simp [rdA]
  | n + 1, L => by
    rw [rdA]
    by_cases h : L = []
    · rw [if_pos h]; simp
    · rw [if_neg h]
      by_cases q : (rdK width L).1 = 0
      · rw [if_pos q]
        obtain ⟨-, k2, k3, k, k4, k5, k6⟩ := rdK_sub q
        have hl := congrArg List.length k6
        rw [List.length_drop] at hl
        obtain ⟨i1, i2⟩ := rdA_rows width n (rdK width L).2.2
        by_cases p : (rdA width n (rdK width L).2.2).1 = 0
        · rw [if_pos p]
          refine ⟨fun R hR => ?_, ?_⟩
          · rcases List.mem_append.1 hR with z | z
            · exact k3 R z
            · exact i1 R z
          · show ((rdK width L).2.1 ++ (rdA width n (rdK width L).2.2).2.2).length ≤ 50 * L.length
            rw [List.length_append]
            omega
        · rw [if_neg p]; simp
      · rw [if_neg q]; simp
theorem rdK_rows (width : Nat) (L : List Int) : (∀ R ∈ (rdK width L).2.1, R.length = width) ∧ (rdK width L).2.1.length ≤ 50 := by
  by_cases q : (rdK width L).1 = 0
  · obtain ⟨-, k2, k3, -⟩ := rdK_sub q
    exact ⟨k3, k2⟩
  · rw [(rdK_no q).1]; simp
theorem rows_lt {Z : List (List Int)} {width : Nat} (h : ∀ R ∈ Z, R.length = width) (hw : width ≤ 16) : ∀ i, i < Z.length → (Z.getD i []).length ≤ maxLen := fun i hi => by
  rw [h (Z.getD i []) (by simp [List.getD, hi])]
  unfold maxLen
  omega
set_option maxRecDepth 100000 in
set_option maxHeartbeats 8000000 in
theorem law_TapeReads (width : Int) (a : Option Addr) (ca : Nat) (L : List Int) (w : World) (hr : RowIs .u8 w a L) (hcap : L.length ≤ ca) (hB : BYL L) (hL : L.length ≤ maxLen) : Calls Try.prog 5 #[.int .i64 width, .slice a L.length ca] w fun e w' => e = .returned (.bool true) ∧ Below w.heap.size w w' := by
  have LV := Lib.hid (fun u => lives45 u)
  have RW := Lib.hid (fun u (k : Below w.heap.size w u) => hr.below k)
  have RL := Lib.hid (fun (q : 1 ≤ L.length) p (e : a = some p) => row_lt hr q p e)
  have BL := Lib.hid hB
  have HC := Lib.hid hcap
  have HM := Lib.hid hL
  have mA : (L.length : Int) ≤ 9223372036854775807 := by unfold maxLen at hL; omega
  clear hr hB hcap hL
  obtain ⟨n, en⟩ : ∃ m, L.length = m := ⟨_, rfl⟩
  have EN := Lib.hid en
  rw [en] at mA ⊢
  clear en
  by_cases q : 3000 < n
  · have q1 : (3000 : Int) < (n : Int) := by omega
    go_enter Try.func5, Try.ntmps5
    go_wp2_with fail
    refine (LV.out _).mono ?_
    rintro e u9 ⟨rfl, hb9⟩
    go_wp2
    go_ret
    exact ⟨rfl, hb9⟩
  have q1 : ¬ (3000 : Int) < (n : Int) := by omega
  have QN := Lib.hid (show n ≤ 3000 by omega)
  by_cases hw : 1 ≤ width ∧ width ≤ 16
  rotate_left
  · have TR := Lib.hid (fun u => tread_w width a n ca u hw)
    have TA := Lib.hid (fun u => tall_w width a n ca u hw)
    have LV2 := LV
    have hw0 := Lib.hid (Below.refl w.heap.size w)
    by_cases z1 : width < 1
    · skip
      have z2 : decide (width < 1) = true := decide_eq_true z1
      go_enter Try.func5, Try.ntmps5
      go_wp2_with fail
      refine (TR.out _).mono ?_
      rintro e u1 ⟨rfl, rfl⟩
      go_wp2_with fail
      refine (TA.out _).mono ?_
      rintro e u1 ⟨rfl, rfl⟩
      go_wp2_with fail
      refine (LV.out _).mono ?_
      rintro e u9 ⟨rfl, hb9⟩
      have hb8 := Lib.hid (show Below w.heap.size w u9 from hw0.out.trans (hb9.mono hw0.out.size))
      clear hb9
      go_wp2
      go_ret
      exact ⟨rfl, hb8.out⟩
    · skip
      have z2 : decide (width < 1) = false := decide_eq_false z1
      have z3 : (16 : Int) < width := by omega
      have z4 : decide ((16 : Int) < width) = true := decide_eq_true z3
      go_enter Try.func5, Try.ntmps5
      go_wp2_with fail
      refine (TR.out _).mono ?_
      rintro e u1 ⟨rfl, rfl⟩
      go_wp2_with fail
      refine (TA.out _).mono ?_
      rintro e u1 ⟨rfl, rfl⟩
      go_wp2_with fail
      refine (LV.out _).mono ?_
      rintro e u9 ⟨rfl, hb9⟩
      have hb8 := Lib.hid (show Below w.heap.size w u9 from hw0.out.trans (hb9.mono hw0.out.size))
      clear hb9
      go_wp2
      go_ret
      exact ⟨rfl, hb8.out⟩
  obtain ⟨wd, ewd⟩ : ∃ z : Nat, width = (z : Int) := ⟨width.toNat, by omega⟩
  subst ewd
  have HW := Lib.hid (show 1 ≤ wd ∧ wd ≤ 16 by omega)
  have z1 : ¬ (wd : Int) < 1 := by omega
  have z2 : ¬ (16 : Int) < (wd : Int) := by omega
  have z3 : decide ((wd : Int) < 1) = false := decide_eq_false z1
  have z4 : decide ((16 : Int) < (wd : Int)) = false := decide_eq_false z2
  clear hw q
  have TR := Lib.hid (tread wd a ca L w (RW.out w (Below.refl _ _)) HC.out RL.out (by rw [EN.out]; have := QN.out; omega) BL.out HW.out)
  have TA := Lib.hid (fun u (k : Below w.heap.size w u) => tall wd a ca L u (RW.out u k) HC.out (fun q p e => Nat.lt_of_lt_of_le (RL.out q p e) k.size) (by rw [EN.out]; have := QN.out; omega) BL.out HW.out)
  have RR := Lib.hid (fun u (k : Below w.heap.size w u) s (hs : s ≤ L.length) => rread wd a ca L s u (RW.out u k) HC.out hs (by rw [EN.out]; have := QN.out; omega) BL.out HW.out)
  have KR := Lib.hid (rdK_rows wd L)
  have KS := Lib.hid (fun q => rdK_sub (width := wd) (L := L) q)
  have KN := Lib.hid (fun q => rdK_no (width := wd) (L := L) q)
  have RR0 := Lib.hid (fun u (k : Below w.heap.size w u) => RR.out u k 0 (Nat.zero_le _))
  obtain ⟨K, eK⟩ : ∃ K, rdK wd L = K := ⟨_, rfl⟩
  replace RR0 := RR0.out
  rw [List.drop_zero, eK, EN.out] at RR0
  rw [eK, EN.out] at TR
  rw [eK] at KR KS KN
  obtain ⟨e1, Z, R⟩ := K
  replace RR0 := Lib.hid RR0
  replace TR := Lib.hid TR.out
  replace KR := Lib.hid (show (∀ X ∈ Z, X.length = wd) ∧ Z.length ≤ 50 from KR.out)
  replace KS := Lib.hid (show e1 = 0 → ∃ k, k ≤ L.length ∧ R = L.drop k from fun q => by obtain ⟨-, -, -, k, -, h1, h2⟩ := KS.out q; exact ⟨k, h1, h2⟩)
  replace KN := Lib.hid (show e1 ≠ 0 → R = [] from fun q => congrArg Prod.snd (KN.out q).1)
  clear eK
  obtain ⟨F, eF⟩ : ∃ F, rdA wd n L = F := ⟨_, rfl⟩
  have AR := rdA_rows wd n L
  rw [eF] at AR
  rw [EN.out, eF] at TA
  have EF := Lib.hid eF
  obtain ⟨f, ft, Y⟩ := F
  replace AR := Lib.hid (show (∀ X ∈ Y, X.length = wd) ∧ Y.length ≤ 50 * L.length from AR)
  replace TA := Lib.hid TA.out
  clear eF
  go_enter Try.func5, Try.ntmps5
  go_wp2_with fail
  refine TR.out.mono ?_
  rintro e w1 ⟨hb1, x, y, G, rfl, hG, hZ, hO⟩
  replace hZ : grL G = Z := hZ
  replace hO : Og 5 w.heap.size y (nvals .u8 R) w1 := hO
  clear TR
  have hb1 := Lib.hid hb1
  have XG := Lib.hid (fun u (k : Below w1.heap.size w1 u) => hG.bel k)
  have YG := Lib.hid (fun u (k : Below w1.heap.size w1 u) => hO.bel k)
  have hZ := Lib.hid hZ
  clear hG hO
  have TA1 := Lib.hid (TA.out w1 hb1.out)
  clear TA
  go_wp2_with fail
  refine TA1.out.mono ?_
  rintro e w2 ⟨hb2, xA, GA, rfl, hGA, hY⟩
  replace hY : grL GA = Y := hY
  have AG := Lib.hid (fun u (k : Below w2.heap.size w2 u) => hGA.bel k)
  have hY := Lib.hid hY
  clear hGA TA1
  have h12 := Lib.hid (show Below w1.heap.size w1 w2 from hb2)
  have hw2 := Lib.hid (show Below w.heap.size w w2 from hb1.out.trans (hb2.mono hb1.out.size))
  clear hb2
  have R1 := Lib.hid (RR0.out w2 hw2.out)
  clear RR0
  go_wp2_with fail
  refine R1.out.mono ?_
  rintro e w3 ⟨hb3, x3, G3, nx, rfl, hG3, hZ3, hnx⟩
  replace hZ3 : grL G3 = Z := hZ3
  replace hnx : e1 = 0 → nx + R.length = n := hnx
  have hw3 := Lib.hid (show Below w.heap.size w w3 from hw2.out.trans (hb3.mono hw2.out.size))
  have h23 := Lib.hid hb3
  have h13 := Lib.hid (show Below w1.heap.size w1 w3 from h12.out.trans (hb3.mono h12.out.size))
  clear R1 hb3
  obtain ⟨ax, cx, A1, C1, rfl, g1⟩ := (XG.out w3 h13.out).grid
  obtain ⟨ax3, cx3, A3, C3, rfl, g3⟩ := hG3.grid
  rw [hZ.out] at g1
  rw [hZ3] at g3
  rw [hZ.out, hZ3]
  have SM := Lib.hid (rsame45 ax ax3 A1 A3 C1 C3 Z cx cx3 w3 g1 g3 (by have := KR.out.2; unfold maxLen; omega) (rows_lt KR.out.1 HW.out.2))
  clear g1 g3 hG3 hZ3
  obtain ⟨ay, cy, ey, -, ry, -, -⟩ := (YG.out w3 h13.out).rowIs
  subst ey
  have t0 : (e1 != e1) = false := by simp
  have t0b : (e1 == e1) = true := by simp
  obtain ⟨aA, cA, AA, CA, exA, gA⟩ := (AG.out w2 (Below.refl _ _)).grid
  subst exA
  rw [hY.out] at gA
  rw [hY.out]
  have gA := Lib.hid (fun u (k : Below w2.heap.size w2 u) => gA.below k)
  go_wp2_with fail
  refine SM.out.mono ?_
  rintro e w4 ⟨rfl, hb4⟩
  have hw4 := Lib.hid (show Below w.heap.size w w4 from hw3.out.trans (hb4.mono hw3.out.size))
  have h24 := Lib.hid (show Below w2.heap.size w2 w4 from h23.out.trans (hb4.mono h23.out.size))
  replace ry := Lib.hid (ry.below hb4)
  clear SM hb4 XG YG AG h12 h13 h23 hw3 hw2
  by_cases q : e1 = 0
  · subst q
    obtain ⟨k, k1, k2⟩ := KS.out rfl
    have hn := hnx rfl
    have eR : R = L.drop nx := by have := congrArg List.length k2; rw [List.length_drop, EN.out] at this; rw [EN.out] at k1; rw [k2, show k = nx by omega]
    have RL9 : R.length = n - nx := by omega
    have nx1 : (nx : Int) ≤ (n : Int) := by omega
    have nx0 : (0 : Int) ≤ (nx : Int) := by omega
    have nca : (n : Int) ≤ (ca : Int) := by have := HC.out; have := EN.out; omega
    clear k1 k2 hn hnx KN
    rcases Nat.lt_or_ge nx ca with kq | kq
    · have kn : ¬ (ca = nx) := by omega
      have kn2 : ¬ (ca - nx = 0) := by omega
      have B2 := rbytes ay (a.map (·.add nx)) cy (ca - nx) R w4 ry.out (by rw [eR]; exact row_at (RW.out w4 hw4.out) nx) (by have := QN.out; unfold maxLen; omega)
      rw [RL9] at B2 ⊢
      replace B2 := Lib.hid B2
      replace eR := Lib.hid eR
      clear KS RL9 ry
      go_wp2_with fail
      refine B2.out.mono ?_
      rintro e w5 ⟨rfl, hb5⟩
      have hw5 := Lib.hid (show Below w.heap.size w w5 from hw4.out.trans (hb5.mono hw4.out.size))
      have h25 := Lib.hid (show Below w2.heap.size w2 w5 from h24.out.trans (hb5.mono h24.out.size))
      clear hb5 B2 hw4 h24
      skip
      go_wp2_with fail
      go_loopw [14, 15] (fun y i v => ∃ (j : Nat) (x' : Value) (G' : List (Nat × List Int)), y = x' ∧ i = .int .i64 (j : Int) ∧ j ≤ n ∧ Hid (Gr w5.heap.size x' G' v) ∧ Hid (G'.length ≤ 50 * j) ∧ Hid (Below w5.heap.size w5 v) ∧ Hid ((f, ft, Y) = if (rdA wd (n - j) (L.drop j)).1 = 0 then (0, 0, grL G' ++ (rdA wd (n - j) (L.drop j)).2.2) else ((rdA wd (n - j) (L.drop j)).1, j + (rdA wd (n - j) (L.drop j)).2.1, []))) (fun _ i _ => n - (intOf i).toNat)
      case atStart => exact ⟨0, _, [], rfl, rfl, by omega, Lib.hid (Gr.nil _ _), Lib.hid (by simp), Lib.hid (Below.refl _ _), Lib.hid (by have t := rdA_tri wd n L; rw [Nat.sub_zero, List.drop_zero]; rw [EF.out] at t ⊢; by_cases z : f = 0; (have e : ft = 0 := t.1 z; subst z e; simp [grL]); (have e : Y = [] := t.2 z; subst e; show _ = if f = 0 then _ else _; rw [if_neg z]; simp))⟩
      case round =>
        obtain ⟨j, x', G', rfl, rfl, hj, hG, hGl, hb, hF⟩ := hrel
        generalize wr = v at *
        have hwv := Lib.hid (show Below w.heap.size w v from hw5.out.trans (hb.out.mono hw5.out.size))
        have h2v := Lib.hid (show Below w2.heap.size w2 v from h25.out.trans (hb.out.mono h25.out.size))
        by_cases hlt : j < n
        · have i1 : (j : Int) < (n : Int) := by omega
          have T := RR.out v hwv.out j (by rw [EN.out]; omega)
          rw [EN.out] at T
          have ML : (L.drop j).length = n - j := by rw [List.length_drop, EN.out]
          have hne : L.drop j ≠ [] := fun e => by rw [e] at ML; simp at ML; omega
          have RO := fun q => rdA_ok (width := wd) hne q
          have RN := fun q => rdA_no (width := wd) hne q
          have KS2 := fun q => rdK_sub (width := wd) (L := L.drop j) q
          rw [ML] at RO RN
          obtain ⟨K, eK⟩ : ∃ K, rdK wd (L.drop j) = K := ⟨_, rfl⟩
          rw [eK] at T RO RN KS2
          clear eK
          obtain ⟨e2, Z2, R2⟩ := K
          replace T := Lib.hid T
          replace RO := Lib.hid RO
          replace RN := Lib.hid RN
          replace KS2 := Lib.hid KS2
          replace ML := Lib.hid ML
          clear hne
          go_wp2_with fail
          refine T.out.mono ?_
          rintro e v2 ⟨hb2, x2, G2, nx2, rfl, hG2, hZ2, hnx2⟩
          replace hZ2 : grL G2 = Z2 := hZ2
          replace hnx2 : e2 = 0 → nx2 + R2.length = n := hnx2
          have hBv := Lib.hid (show w5.heap.size ≤ v.heap.size from hb.out.size)
          have hb8 := Lib.hid (show Below w5.heap.size w5 v2 from hb.out.trans (hb2.mono hb.out.size))
          have hw8 := Lib.hid (show Below w.heap.size w v2 from hwv.out.trans (hb2.mono hwv.out.size))
          have hG8 := Lib.hid (hG.out.bel hb2)
          have hBv2 := Lib.hid (show w5.heap.size ≤ v2.heap.size from hb8.out.size)
          clear T hG hb hb2 hwv h2v
          by_cases q2 : e2 = 0
          · subst q2
            obtain ⟨-, k2, -, k, k3, k4, k5⟩ : 1 ≤ Z2.length ∧ Z2.length ≤ 50 ∧ (∀ X ∈ Z2, X.length = wd) ∧ ∃ k, 4 + wd ≤ k ∧ k ≤ (L.drop j).length ∧ R2 = (L.drop j).drop k := KS2.out rfl
            have RO : rdA wd (n - j) (L.drop j) = if (rdA wd R2.length R2).1 = 0 then (0, 0, Z2 ++ (rdA wd R2.length R2).2.2) else ((rdA wd R2.length R2).1, (n - j - R2.length) + (rdA wd R2.length R2).2.1, []) := RO.out rfl
            have hn2 := hnx2 rfl
            have hjk : nx2 = j + k := by have := congrArg List.length k5; rw [List.length_drop, ML.out] at this; rw [ML.out] at k4; omega
            have eR : R2 = L.drop nx2 := by rw [k5, List.drop_drop, hjk]
            have GL2 := Lib.hid (show G2.length ≤ 50 by rw [← grL_len, hZ2]; exact k2)
            have hF2 := Lib.hid (show (f, ft, Y) = if (rdA wd (n - nx2) (L.drop nx2)).1 = 0 then (0, 0, grL (G' ++ G2) ++ (rdA wd (n - nx2) (L.drop nx2)).2.2) else ((rdA wd (n - nx2) (L.drop nx2)).1, nx2 + (rdA wd (n - nx2) (L.drop nx2)).2.1, []) by
              rw [hF.out, RO, ← eR, show n - nx2 = R2.length by omega, grL_app, hZ2]
              by_cases z : (rdA wd R2.length R2).1 = 0
              · rw [if_pos z, if_pos z]; simp
              · rw [if_neg z, if_neg z, if_neg z]
                refine Prod.ext rfl (Prod.ext ?_ rfl)
                show j + (n - j - R2.length + (rdA wd R2.length R2).2.1) = nx2 + (rdA wd R2.length R2).2.1
                omega)
            have SR := Lib.hid (hG2.og.src (t := 35) Try.underlying35 (grV_one _))
            have hO8 := Lib.hid hG8.out.og
            have hG2 := Lib.hid (show ∀ t ∈ G2, Cl t.1 t.2 v2 ∧ w5.heap.size ≤ t.1 from fun t ht => ⟨(hG2.rw t ht).1, Nat.le_trans hBv.out (hG2.rw t ht).2⟩)
            have hjl := Lib.hid (show j + 4 ≤ nx2 ∧ nx2 ≤ n by omega)
            have GB := Lib.hid (show G'.length + G2.length ≤ 50 * nx2 by have := hGl.out; have := GL2.out; omega)
            clear RO RN KS2 hF hnx2 k2 k3 k4 k5 hn2 hjk eR hZ2
            go_upto_region 17 with (first | (at_builtin; refine wpList_append_og _ rfl (.tmp 134) (.tmp 135) 35 35 rfl 79 (.slice none 0 0) 24 Try.underlying35 (by kernel_rfl) rfl w5.heap.size _ _ rfl hO8.out hBv2.out _ _ _ rfl SR.out (by rw [grV_len, grV_len]; have := GB.out; have := hjl.out; have := QN.out; unfold maxLen; omega) (by rw [grV_len, grV_len]; have := GB.out; have := hjl.out; have := QN.out; omega) ?_; intro x9 v9 hO9 hK9 hN9))
            have g1 := Lib.hid (show Gr w5.heap.size x9 (G' ++ G2) v9 from hG8.out.app hG2.out hO9 hK9)
            have g3 := Lib.hid (show Below w5.heap.size w5 v9 from hb8.out.trans (hK9.below hO8.out hBv2.out))
            have g4 := Lib.hid (show (G' ++ G2).length ≤ 50 * nx2 by rw [List.length_append]; exact GB.out)
            clear hO9 hK9 hN9 SR hO8 hG8 hG2 hb8 hBv hBv2 hw8
            go_wp2
            go_roundw
            case rel => exact ⟨nx2, x9, G' ++ G2, rfl, rfl, hjl.out.2, g1, g4, g3, hF2⟩
            case measure => have := hjl.out; simp [intOf]; omega
          · have hf : (f, ft, Y) = (e2, j, []) := by have := hF.out; rw [RN.out q2, if_neg q2] at this; exact this
            injection hf with hf1 hf
            injection hf with hf2 hf3
            have q3 : (e2 == 0) = false := beq_eq_false_iff_ne.2 q2
            have q4 : (e2 != 0) = true := by simp [q2]
            have q5 : (f == e2) = true := beq_iff_eq.2 hf1
            have q6 : ((ft : Int) == (j : Int)) = true := beq_iff_eq.2 (by omega)
            have q7 : ((Y.length : Int) == 0) = true := by rw [hf3]; rfl
            have q8 : Y.length = 0 := by rw [hf3]; rfl
            clear hF RO RN KS2 hG2 hnx2 hG8 hf3
            go_wp2_with fail
            refine (LV.out _).mono ?_
            rintro e u9 ⟨rfl, hb9⟩
            have hb8 := Lib.hid (show Below w.heap.size w u9 from hw8.out.trans (hb9.mono hw8.out.size))
            clear hb9
            go_wp2
            go_ret
            exact ⟨rfl, hb8.out⟩
        · obtain rfl : j = n := by omega
          have i1 : ¬ (j : Int) < (j : Int) := by omega
          have hf : (f, ft, Y) = (0, 0, grL G') := by have := hF.out; rw [Nat.sub_self, show rdA wd 0 (L.drop j) = (0, 0, []) from rfl] at this; simpa using this
          injection hf with hf1 hf
          injection hf with hf2 hf3
          have q5 : (f == 0) = true := beq_iff_eq.2 hf1
          have q6 : ((ft : Int) == 0) = true := beq_iff_eq.2 (by omega)
          obtain ⟨ag, cg, AG2, CG2, rfl, gg⟩ := hG.out.grid
          rw [← hf3] at gg ⊢
          have SM := Lib.hid (rsame45 aA ag AA AG2 CA CG2 Y cA cg v (gA.out v h2v.out) gg (by have := AR.out.2; have := EN.out; have := QN.out; unfold maxLen; omega) (rows_lt AR.out.1 HW.out.2))
          clear gg hf3 hF hG
          go_wp2_with fail
          refine SM.out.mono ?_
          rintro e v2 ⟨rfl, hb2⟩
          have hw8 := Lib.hid (show Below w.heap.size w v2 from hwv.out.trans (hb2.mono hwv.out.size))
          clear hb2 SM
          go_wp2_with fail
          refine (LV.out _).mono ?_
          rintro e u9 ⟨rfl, hb9⟩
          have hb8 := Lib.hid (show Below w.heap.size w u9 from hw8.out.trans (hb9.mono hw8.out.size))
          clear hb9
          go_wp2
          go_ret
          exact ⟨rfl, hb8.out⟩
    · obtain rfl : nx = ca := by have := HC.out; have := EN.out; omega
      have B2 := rbytes ay a cy 0 R w4 ry.out (.inl (List.eq_nil_of_length_eq_zero (by omega))) (by have := QN.out; unfold maxLen; omega)
      rw [RL9] at B2 ⊢
      replace B2 := Lib.hid B2
      replace eR := Lib.hid eR
      clear KS RL9 ry
      go_wp2_with fail
      refine B2.out.mono ?_
      rintro e w5 ⟨rfl, hb5⟩
      have hw5 := Lib.hid (show Below w.heap.size w w5 from hw4.out.trans (hb5.mono hw4.out.size))
      have h25 := Lib.hid (show Below w2.heap.size w2 w5 from h24.out.trans (hb5.mono h24.out.size))
      clear hb5 B2 hw4 h24
      skip
      go_wp2_with fail
      go_loopw [14, 15] (fun y i v => ∃ (j : Nat) (x' : Value) (G' : List (Nat × List Int)), y = x' ∧ i = .int .i64 (j : Int) ∧ j ≤ n ∧ Hid (Gr w5.heap.size x' G' v) ∧ Hid (G'.length ≤ 50 * j) ∧ Hid (Below w5.heap.size w5 v) ∧ Hid ((f, ft, Y) = if (rdA wd (n - j) (L.drop j)).1 = 0 then (0, 0, grL G' ++ (rdA wd (n - j) (L.drop j)).2.2) else ((rdA wd (n - j) (L.drop j)).1, j + (rdA wd (n - j) (L.drop j)).2.1, []))) (fun _ i _ => n - (intOf i).toNat)
      case atStart => exact ⟨0, _, [], rfl, rfl, by omega, Lib.hid (Gr.nil _ _), Lib.hid (by simp), Lib.hid (Below.refl _ _), Lib.hid (by have t := rdA_tri wd n L; rw [Nat.sub_zero, List.drop_zero]; rw [EF.out] at t ⊢; by_cases z : f = 0; (have e : ft = 0 := t.1 z; subst z e; simp [grL]); (have e : Y = [] := t.2 z; subst e; show _ = if f = 0 then _ else _; rw [if_neg z]; simp))⟩
      case round =>
        obtain ⟨j, x', G', rfl, rfl, hj, hG, hGl, hb, hF⟩ := hrel
        generalize wr = v at *
        have hwv := Lib.hid (show Below w.heap.size w v from hw5.out.trans (hb.out.mono hw5.out.size))
        have h2v := Lib.hid (show Below w2.heap.size w2 v from h25.out.trans (hb.out.mono h25.out.size))
        by_cases hlt : j < n
        · have i1 : (j : Int) < (n : Int) := by omega
          have T := RR.out v hwv.out j (by rw [EN.out]; omega)
          rw [EN.out] at T
          have ML : (L.drop j).length = n - j := by rw [List.length_drop, EN.out]
          have hne : L.drop j ≠ [] := fun e => by rw [e] at ML; simp at ML; omega
          have RO := fun q => rdA_ok (width := wd) hne q
          have RN := fun q => rdA_no (width := wd) hne q
          have KS2 := fun q => rdK_sub (width := wd) (L := L.drop j) q
          rw [ML] at RO RN
          obtain ⟨K, eK⟩ : ∃ K, rdK wd (L.drop j) = K := ⟨_, rfl⟩
          rw [eK] at T RO RN KS2
          clear eK
          obtain ⟨e2, Z2, R2⟩ := K
          replace T := Lib.hid T
          replace RO := Lib.hid RO
          replace RN := Lib.hid RN
          replace KS2 := Lib.hid KS2
          replace ML := Lib.hid ML
          clear hne
          go_wp2_with fail
          refine T.out.mono ?_
          rintro e v2 ⟨hb2, x2, G2, nx2, rfl, hG2, hZ2, hnx2⟩
          replace hZ2 : grL G2 = Z2 := hZ2
          replace hnx2 : e2 = 0 → nx2 + R2.length = n := hnx2
          have hBv := Lib.hid (show w5.heap.size ≤ v.heap.size from hb.out.size)
          have hb8 := Lib.hid (show Below w5.heap.size w5 v2 from hb.out.trans (hb2.mono hb.out.size))
          have hw8 := Lib.hid (show Below w.heap.size w v2 from hwv.out.trans (hb2.mono hwv.out.size))
          have hG8 := Lib.hid (hG.out.bel hb2)
          have hBv2 := Lib.hid (show w5.heap.size ≤ v2.heap.size from hb8.out.size)
          clear T hG hb hb2 hwv h2v
          by_cases q2 : e2 = 0
          · subst q2
            obtain ⟨-, k2, -, k, k3, k4, k5⟩ : 1 ≤ Z2.length ∧ Z2.length ≤ 50 ∧ (∀ X ∈ Z2, X.length = wd) ∧ ∃ k, 4 + wd ≤ k ∧ k ≤ (L.drop j).length ∧ R2 = (L.drop j).drop k := KS2.out rfl
            have RO : rdA wd (n - j) (L.drop j) = if (rdA wd R2.length R2).1 = 0 then (0, 0, Z2 ++ (rdA wd R2.length R2).2.2) else ((rdA wd R2.length R2).1, (n - j - R2.length) + (rdA wd R2.length R2).2.1, []) := RO.out rfl
            have hn2 := hnx2 rfl
            have hjk : nx2 = j + k := by have := congrArg List.length k5; rw [List.length_drop, ML.out] at this; rw [ML.out] at k4; omega
            have eR : R2 = L.drop nx2 := by rw [k5, List.drop_drop, hjk]
            have GL2 := Lib.hid (show G2.length ≤ 50 by rw [← grL_len, hZ2]; exact k2)
            have hF2 := Lib.hid (show (f, ft, Y) = if (rdA wd (n - nx2) (L.drop nx2)).1 = 0 then (0, 0, grL (G' ++ G2) ++ (rdA wd (n - nx2) (L.drop nx2)).2.2) else ((rdA wd (n - nx2) (L.drop nx2)).1, nx2 + (rdA wd (n - nx2) (L.drop nx2)).2.1, []) by
              rw [hF.out, RO, ← eR, show n - nx2 = R2.length by omega, grL_app, hZ2]
              by_cases z : (rdA wd R2.length R2).1 = 0
              · rw [if_pos z, if_pos z]; simp
              · rw [if_neg z, if_neg z, if_neg z]
                refine Prod.ext rfl (Prod.ext ?_ rfl)
                show j + (n - j - R2.length + (rdA wd R2.length R2).2.1) = nx2 + (rdA wd R2.length R2).2.1
                omega)
            have SR := Lib.hid (hG2.og.src (t := 35) Try.underlying35 (grV_one _))
            have hO8 := Lib.hid hG8.out.og
            have hG2 := Lib.hid (show ∀ t ∈ G2, Cl t.1 t.2 v2 ∧ w5.heap.size ≤ t.1 from fun t ht => ⟨(hG2.rw t ht).1, Nat.le_trans hBv.out (hG2.rw t ht).2⟩)
            have hjl := Lib.hid (show j + 4 ≤ nx2 ∧ nx2 ≤ n by omega)
            have GB := Lib.hid (show G'.length + G2.length ≤ 50 * nx2 by have := hGl.out; have := GL2.out; omega)
            clear RO RN KS2 hF hnx2 k2 k3 k4 k5 hn2 hjk eR hZ2
            go_upto_region 17 with (first | (at_builtin; refine wpList_append_og _ rfl (.tmp 134) (.tmp 135) 35 35 rfl 79 (.slice none 0 0) 24 Try.underlying35 (by kernel_rfl) rfl w5.heap.size _ _ rfl hO8.out hBv2.out _ _ _ rfl SR.out (by rw [grV_len, grV_len]; have := GB.out; have := hjl.out; have := QN.out; unfold maxLen; omega) (by rw [grV_len, grV_len]; have := GB.out; have := hjl.out; have := QN.out; omega) ?_; intro x9 v9 hO9 hK9 hN9))
            have g1 := Lib.hid (show Gr w5.heap.size x9 (G' ++ G2) v9 from hG8.out.app hG2.out hO9 hK9)
            have g3 := Lib.hid (show Below w5.heap.size w5 v9 from hb8.out.trans (hK9.below hO8.out hBv2.out))
            have g4 := Lib.hid (show (G' ++ G2).length ≤ 50 * nx2 by rw [List.length_append]; exact GB.out)
            clear hO9 hK9 hN9 SR hO8 hG8 hG2 hb8 hBv hBv2 hw8
            go_wp2
            go_roundw
            case rel => exact ⟨nx2, x9, G' ++ G2, rfl, rfl, hjl.out.2, g1, g4, g3, hF2⟩
            case measure => have := hjl.out; simp [intOf]; omega
          · have hf : (f, ft, Y) = (e2, j, []) := by have := hF.out; rw [RN.out q2, if_neg q2] at this; exact this
            injection hf with hf1 hf
            injection hf with hf2 hf3
            have q3 : (e2 == 0) = false := beq_eq_false_iff_ne.2 q2
            have q4 : (e2 != 0) = true := by simp [q2]
            have q5 : (f == e2) = true := beq_iff_eq.2 hf1
            have q6 : ((ft : Int) == (j : Int)) = true := beq_iff_eq.2 (by omega)
            have q7 : ((Y.length : Int) == 0) = true := by rw [hf3]; rfl
            have q8 : Y.length = 0 := by rw [hf3]; rfl
            clear hF RO RN KS2 hG2 hnx2 hG8 hf3
            go_wp2_with fail
            refine (LV.out _).mono ?_
            rintro e u9 ⟨rfl, hb9⟩
            have hb8 := Lib.hid (show Below w.heap.size w u9 from hw8.out.trans (hb9.mono hw8.out.size))
            clear hb9
            go_wp2
            go_ret
            exact ⟨rfl, hb8.out⟩
        · obtain rfl : j = n := by omega
          have i1 : ¬ (j : Int) < (j : Int) := by omega
          have hf : (f, ft, Y) = (0, 0, grL G') := by have := hF.out; rw [Nat.sub_self, show rdA wd 0 (L.drop j) = (0, 0, []) from rfl] at this; simpa using this
          injection hf with hf1 hf
          injection hf with hf2 hf3
          have q5 : (f == 0) = true := beq_iff_eq.2 hf1
          have q6 : ((ft : Int) == 0) = true := beq_iff_eq.2 (by omega)
          obtain ⟨ag, cg, AG2, CG2, rfl, gg⟩ := hG.out.grid
          rw [← hf3] at gg ⊢
          have SM := Lib.hid (rsame45 aA ag AA AG2 CA CG2 Y cA cg v (gA.out v h2v.out) gg (by have := AR.out.2; have := EN.out; have := QN.out; unfold maxLen; omega) (rows_lt AR.out.1 HW.out.2))
          clear gg hf3 hF hG
          go_wp2_with fail
          refine SM.out.mono ?_
          rintro e v2 ⟨rfl, hb2⟩
          have hw8 := Lib.hid (show Below w.heap.size w v2 from hwv.out.trans (hb2.mono hwv.out.size))
          clear hb2 SM
          go_wp2_with fail
          refine (LV.out _).mono ?_
          rintro e u9 ⟨rfl, hb9⟩
          have hb8 := Lib.hid (show Below w.heap.size w u9 from hw8.out.trans (hb9.mono hw8.out.size))
          clear hb9
          go_wp2
          go_ret
          exact ⟨rfl, hb8.out⟩
  · have eR := KN.out q
    have t3 : (e1 == 0) = false := beq_eq_false_iff_ne.2 q
    have t4 : (e1 != 0) = true := by simp [q]
    subst eR
    have hw5 := hw4
    have h25 := h24
    clear ry KS KN hnx
    generalize w4 = w5 at *
    skip
    go_wp2_with fail
    go_loopw [14, 15] (fun y i v => ∃ (j : Nat) (x' : Value) (G' : List (Nat × List Int)), y = x' ∧ i = .int .i64 (j : Int) ∧ j ≤ n ∧ Hid (Gr w5.heap.size x' G' v) ∧ Hid (G'.length ≤ 50 * j) ∧ Hid (Below w5.heap.size w5 v) ∧ Hid ((f, ft, Y) = if (rdA wd (n - j) (L.drop j)).1 = 0 then (0, 0, grL G' ++ (rdA wd (n - j) (L.drop j)).2.2) else ((rdA wd (n - j) (L.drop j)).1, j + (rdA wd (n - j) (L.drop j)).2.1, []))) (fun _ i _ => n - (intOf i).toNat)
    case atStart => exact ⟨0, _, [], rfl, rfl, by omega, Lib.hid (Gr.nil _ _), Lib.hid (by simp), Lib.hid (Below.refl _ _), Lib.hid (by have t := rdA_tri wd n L; rw [Nat.sub_zero, List.drop_zero]; rw [EF.out] at t ⊢; by_cases z : f = 0; (have e : ft = 0 := t.1 z; subst z e; simp [grL]); (have e : Y = [] := t.2 z; subst e; show _ = if f = 0 then _ else _; rw [if_neg z]; simp))⟩
    case round =>
      obtain ⟨j, x', G', rfl, rfl, hj, hG, hGl, hb, hF⟩ := hrel
      generalize wr = v at *
      have hwv := Lib.hid (show Below w.heap.size w v from hw5.out.trans (hb.out.mono hw5.out.size))
      have h2v := Lib.hid (show Below w2.heap.size w2 v from h25.out.trans (hb.out.mono h25.out.size))
      by_cases hlt : j < n
      · have i1 : (j : Int) < (n : Int) := by omega
        have T := RR.out v hwv.out j (by rw [EN.out]; omega)
        rw [EN.out] at T
        have ML : (L.drop j).length = n - j := by rw [List.length_drop, EN.out]
        have hne : L.drop j ≠ [] := fun e => by rw [e] at ML; simp at ML; omega
        have RO := fun q => rdA_ok (width := wd) hne q
        have RN := fun q => rdA_no (width := wd) hne q
        have KS2 := fun q => rdK_sub (width := wd) (L := L.drop j) q
        rw [ML] at RO RN
        obtain ⟨K, eK⟩ : ∃ K, rdK wd (L.drop j) = K := ⟨_, rfl⟩
        rw [eK] at T RO RN KS2
        clear eK
        obtain ⟨e2, Z2, R2⟩ := K
        replace T := Lib.hid T
        replace RO := Lib.hid RO
        replace RN := Lib.hid RN
        replace KS2 := Lib.hid KS2
        replace ML := Lib.hid ML
        clear hne
        go_wp2_with fail
        refine T.out.mono ?_
        rintro e v2 ⟨hb2, x2, G2, nx2, rfl, hG2, hZ2, hnx2⟩
        replace hZ2 : grL G2 = Z2 := hZ2
        replace hnx2 : e2 = 0 → nx2 + R2.length = n := hnx2
        have hBv := Lib.hid (show w5.heap.size ≤ v.heap.size from hb.out.size)
        have hb8 := Lib.hid (show Below w5.heap.size w5 v2 from hb.out.trans (hb2.mono hb.out.size))
        have hw8 := Lib.hid (show Below w.heap.size w v2 from hwv.out.trans (hb2.mono hwv.out.size))
        have hG8 := Lib.hid (hG.out.bel hb2)
        have hBv2 := Lib.hid (show w5.heap.size ≤ v2.heap.size from hb8.out.size)
        clear T hG hb hb2 hwv h2v
        by_cases q2 : e2 = 0
        · subst q2
          obtain ⟨-, k2, -, k, k3, k4, k5⟩ : 1 ≤ Z2.length ∧ Z2.length ≤ 50 ∧ (∀ X ∈ Z2, X.length = wd) ∧ ∃ k, 4 + wd ≤ k ∧ k ≤ (L.drop j).length ∧ R2 = (L.drop j).drop k := KS2.out rfl
          have RO : rdA wd (n - j) (L.drop j) = if (rdA wd R2.length R2).1 = 0 then (0, 0, Z2 ++ (rdA wd R2.length R2).2.2) else ((rdA wd R2.length R2).1, (n - j - R2.length) + (rdA wd R2.length R2).2.1, []) := RO.out rfl
          have hn2 := hnx2 rfl
          have hjk : nx2 = j + k := by have := congrArg List.length k5; rw [List.length_drop, ML.out] at this; rw [ML.out] at k4; omega
          have eR : R2 = L.drop nx2 := by rw [k5, List.drop_drop, hjk]
          have GL2 := Lib.hid (show G2.length ≤ 50 by rw [← grL_len, hZ2]; exact k2)
          have hF2 := Lib.hid (show (f, ft, Y) = if (rdA wd (n - nx2) (L.drop nx2)).1 = 0 then (0, 0, grL (G' ++ G2) ++ (rdA wd (n - nx2) (L.drop nx2)).2.2) else ((rdA wd (n - nx2) (L.drop nx2)).1, nx2 + (rdA wd (n - nx2) (L.drop nx2)).2.1, []) by
            rw [hF.out, RO, ← eR, show n - nx2 = R2.length by omega, grL_app, hZ2]
            by_cases z : (rdA wd R2.length R2).1 = 0
            · rw [if_pos z, if_pos z]; simp
            · rw [if_neg z, if_neg z, if_neg z]
              refine Prod.ext rfl (Prod.ext ?_ rfl)
              show j + (n - j - R2.length + (rdA wd R2.length R2).2.1) = nx2 + (rdA wd R2.length R2).2.1
              omega)
          have SR := Lib.hid (hG2.og.src (t := 35) Try.underlying35 (grV_one _))
          have hO8 := Lib.hid hG8.out.og
          have hG2 := Lib.hid (show ∀ t ∈ G2, Cl t.1 t.2 v2 ∧ w5.heap.size ≤ t.1 from fun t ht => ⟨(hG2.rw t ht).1, Nat.le_trans hBv.out (hG2.rw t ht).2⟩)
          have hjl := Lib.hid (show j + 4 ≤ nx2 ∧ nx2 ≤ n by omega)
          have GB := Lib.hid (show G'.length + G2.length ≤ 50 * nx2 by have := hGl.out; have := GL2.out; omega)
          clear RO RN KS2 hF hnx2 k2 k3 k4 k5 hn2 hjk eR hZ2
          go_upto_region 17 with (first | (at_builtin; refine wpList_append_og _ rfl (.tmp 134) (.tmp 135) 35 35 rfl 79 (.slice none 0 0) 24 Try.underlying35 (by kernel_rfl) rfl w5.heap.size _ _ rfl hO8.out hBv2.out _ _ _ rfl SR.out (by rw [grV_len, grV_len]; have := GB.out; have := hjl.out; have := QN.out; unfold maxLen; omega) (by rw [grV_len, grV_len]; have := GB.out; have := hjl.out; have := QN.out; omega) ?_; intro x9 v9 hO9 hK9 hN9))
          have g1 := Lib.hid (show Gr w5.heap.size x9 (G' ++ G2) v9 from hG8.out.app hG2.out hO9 hK9)
          have g3 := Lib.hid (show Below w5.heap.size w5 v9 from hb8.out.trans (hK9.below hO8.out hBv2.out))
          have g4 := Lib.hid (show (G' ++ G2).length ≤ 50 * nx2 by rw [List.length_append]; exact GB.out)
          clear hO9 hK9 hN9 SR hO8 hG8 hG2 hb8 hBv hBv2 hw8
          go_wp2
          go_roundw
          case rel => exact ⟨nx2, x9, G' ++ G2, rfl, rfl, hjl.out.2, g1, g4, g3, hF2⟩
          case measure => have := hjl.out; simp [intOf]; omega
        · have hf : (f, ft, Y) = (e2, j, []) := by have := hF.out; rw [RN.out q2, if_neg q2] at this; exact this
          injection hf with hf1 hf
          injection hf with hf2 hf3
          have q3 : (e2 == 0) = false := beq_eq_false_iff_ne.2 q2
          have q4 : (e2 != 0) = true := by simp [q2]
          have q5 : (f == e2) = true := beq_iff_eq.2 hf1
          have q6 : ((ft : Int) == (j : Int)) = true := beq_iff_eq.2 (by omega)
          have q7 : ((Y.length : Int) == 0) = true := by rw [hf3]; rfl
          have q8 : Y.length = 0 := by rw [hf3]; rfl
          clear hF RO RN KS2 hG2 hnx2 hG8 hf3
          go_wp2_with fail
          refine (LV.out _).mono ?_
          rintro e u9 ⟨rfl, hb9⟩
          have hb8 := Lib.hid (show Below w.heap.size w u9 from hw8.out.trans (hb9.mono hw8.out.size))
          clear hb9
          go_wp2
          go_ret
          exact ⟨rfl, hb8.out⟩
      · obtain rfl : j = n := by omega
        have i1 : ¬ (j : Int) < (j : Int) := by omega
        have hf : (f, ft, Y) = (0, 0, grL G') := by have := hF.out; rw [Nat.sub_self, show rdA wd 0 (L.drop j) = (0, 0, []) from rfl] at this; simpa using this
        injection hf with hf1 hf
        injection hf with hf2 hf3
        have q5 : (f == 0) = true := beq_iff_eq.2 hf1
        have q6 : ((ft : Int) == 0) = true := beq_iff_eq.2 (by omega)
        obtain ⟨ag, cg, AG2, CG2, rfl, gg⟩ := hG.out.grid
        rw [← hf3] at gg ⊢
        have SM := Lib.hid (rsame45 aA ag AA AG2 CA CG2 Y cA cg v (gA.out v h2v.out) gg (by have := AR.out.2; have := EN.out; have := QN.out; unfold maxLen; omega) (rows_lt AR.out.1 HW.out.2))
        clear gg hf3 hF hG
        go_wp2_with fail
        refine SM.out.mono ?_
        rintro e v2 ⟨rfl, hb2⟩
        have hw8 := Lib.hid (show Below w.heap.size w v2 from hwv.out.trans (hb2.mono hwv.out.size))
        clear hb2 SM
        go_wp2_with fail
        refine (LV.out _).mono ?_
        rintro e u9 ⟨rfl, hb9⟩
        have hb8 := Lib.hid (show Below w.heap.size w u9 from hw8.out.trans (hb9.mono hw8.out.size))
        clear hb9
        go_wp2
        go_ret
        exact ⟨rfl, hb8.out⟩
end Go.Proofs.Ytpcbnoefgknihaa
