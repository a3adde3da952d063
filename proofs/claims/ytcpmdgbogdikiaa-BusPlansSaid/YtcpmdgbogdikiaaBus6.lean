/- The law BusPlans; walked. -/
import Derived.Test.YtcpmdgbogdikiaaBus5
namespace Go.Proofs.Ytcpmdgbogdikiaa
open Go.ChangeShapes Go.WideShapes Go.ChangeAt Go.RowKit
set_option linter.unusedVariables false
set_option linter.unusedSimpArgs false
set_option maxRecDepth 100000 in
set_option maxHeartbeats 8000000 in
theorem law_BusPlans (a : Option Addr) (cap n : Nat) (N P F : Nat → Int) (t : Int) (w : World) (h : Pl w a n N P F) (hcap : n ≤ cap) (hn : n ≤ maxLen) (ht : -9223372036854775808 ≤ t ∧ t ≤ 9223372036854775807) : Calls Try.prog 3 #[.slice a n cap, .int .i64 t] w fun e w' => e = .returned (.bool true) ∧ Below w.heap.size w w' := by
  have LV := Lib.hid (fun u => lives46 u)
  have HH := Lib.hid (fun u (k : Below w.heap.size w u) => h.below k)
  have HC := Lib.hid hcap
  have hw := Lib.hid (Below.refl w.heap.size w)
  have hn' : (n : Int) ≤ 9223372036854775807 := by unfold maxLen at hn; omega
  by_cases q : 300 < n
  · have q1 : (300 : Int) < (n : Int) := by omega
    go_enter Try.func3, Try.ntmps3
    go_wp2_with fail
    refine (LV.out _).mono ?_
    rintro e u9 ⟨rfl, hb9⟩
    have hb8 := Lib.hid (show Below w.heap.size w u9 from hw.out.trans (hb9.mono hw.out.size))
    clear hb9
    go_wp2
    go_ret
    exact ⟨rfl, hb8.out⟩
  have q1 : ¬ (300 : Int) < (n : Int) := by omega
  have DU := Lib.hid (bDue a cap n N P F t w h hcap (by omega) ht.2)
  have LD := Lib.hid (fun u (k : Below w.heap.size w u) => bload a cap n N P F u (HH.out u k) HC.out (by omega))
  have BR := Lib.hid (fun u (k : Below w.heap.size w u) => bright a cap n N P F u (HH.out u k) HC.out (by unfold maxLen; omega))
  have LR := Lib.hid (fun u (k : Below w.heap.size w u) => lright a cap n N P F u (HH.out u k) (by omega))
  obtain ⟨p, ep⟩ : ∃ p, rtB n N P F = p := ⟨_, rfl⟩
  obtain ⟨D, eD⟩ : ∃ D, DuL n N P F t = D := ⟨_, rfl⟩
  rw [eD] at DU
  replace LD := LD.out
  replace BR := BR.out
  replace LR := LR.out
  rw [ep] at LD BR LR
  replace BR := Lib.hid BR
  replace LR := Lib.hid LR
  clear h hcap hn
  cases p
  · have hD : D = [] := by rw [← eD]; exact if_neg (fun z => by rw [ep] at z; cases z.1)
    subst hD
    simp only [reduceIte, Bool.false_eq_true] at LD
    replace LD := Lib.hid LD
    go_enter Try.func3, Try.ntmps3
    go_wp2_with fail
    refine DU.out.mono ?_
    rintro e w1 ⟨xl, rfl, hO, hb⟩
    have h1 := Lib.hid hb
    have XO := Lib.hid (fun u (k : Below w1.heap.size w1 u) => hO.bel k)
    clear hb DU
    obtain ⟨al, cl, exl, hcl, -, -⟩ := hO.row
    rw [lvals_len] at exl hcl
    subst exl
    clear hO
    go_wp2_with fail
    refine (LD.out w1 h1.out).mono ?_
    rintro e w2 ⟨rfl, hb⟩
    have h2 := Lib.hid (show Below w.heap.size w w2 from h1.out.trans (hb.mono h1.out.size))
    have k2 := Lib.hid hb
    clear hb LD
    go_wp2_with fail
    refine (BR.out w2 h2.out).mono ?_
    rintro e w3 ⟨rfl, hb⟩
    have h3 := Lib.hid (show Below w.heap.size w w3 from h2.out.trans (hb.mono h2.out.size))
    have k3 := Lib.hid (show Below w1.heap.size w1 w3 from k2.out.trans (hb.mono k2.out.size))
    clear hb BR
    go_wp2_with fail
    refine (LR.out w3 h3.out).mono ?_
    rintro e w4 ⟨rfl, hb⟩
    have h4 := Lib.hid (show Below w.heap.size w w4 from h3.out.trans (hb.mono h3.out.size))
    have k4 := Lib.hid (show Below w1.heap.size w1 w4 from k3.out.trans (hb.mono k3.out.size))
    clear hb
    go_wp2_with fail
    refine (LR.out w4 h4.out).mono ?_
    rintro e w5 ⟨rfl, hb⟩
    have h5 := Lib.hid (show Below w.heap.size w w5 from h4.out.trans (hb.mono h4.out.size))
    have k5 := Lib.hid (show Below w1.heap.size w1 w5 from k4.out.trans (hb.mono k4.out.size))
    clear hb LR
    go_wp2_with fail
    refine (LV.out _).mono ?_
    rintro e u9 ⟨rfl, hb9⟩
    have hb8 := Lib.hid (show Below w.heap.size w u9 from h5.out.trans (hb9.mono h5.out.size))
    clear hb9
    go_wp2
    go_ret
    exact ⟨rfl, hb8.out⟩
  · simp only [reduceIte] at LD
    replace LD := Lib.hid LD
    go_enter Try.func3, Try.ntmps3
    go_wp2_with fail
    refine DU.out.mono ?_
    rintro e w1 ⟨xl, rfl, hO, hb⟩
    have h1 := Lib.hid hb
    have XO := Lib.hid (fun u (k : Below w1.heap.size w1 u) => hO.bel k)
    clear hb DU
    obtain ⟨al, cl, exl, hcl, -, -⟩ := hO.row
    rw [lvals_len] at exl hcl
    subst exl
    clear hO
    go_wp2_with fail
    refine (LD.out w1 h1.out).mono ?_
    rintro e w2 ⟨rfl, hb⟩
    have h2 := Lib.hid (show Below w.heap.size w w2 from h1.out.trans (hb.mono h1.out.size))
    have k2 := Lib.hid hb
    clear hb LD
    go_wp2_with fail
    refine (BR.out w2 h2.out).mono ?_
    rintro e w3 ⟨rfl, hb⟩
    have h3 := Lib.hid (show Below w.heap.size w w3 from h2.out.trans (hb.mono h2.out.size))
    have k3 := Lib.hid (show Below w1.heap.size w1 w3 from k2.out.trans (hb.mono k2.out.size))
    clear hb BR
    go_wp2_with fail
    refine (LR.out w3 h3.out).mono ?_
    rintro e w4 ⟨rfl, hb⟩
    have h4 := Lib.hid (show Below w.heap.size w w4 from h3.out.trans (hb.mono h3.out.size))
    have k4 := Lib.hid (show Below w1.heap.size w1 w4 from k3.out.trans (hb.mono k3.out.size))
    clear hb
    go_wp2_with fail
    refine (LR.out w4 h4.out).mono ?_
    rintro e w5 ⟨rfl, hb⟩
    have h5 := Lib.hid (show Below w.heap.size w w5 from h4.out.trans (hb.mono h4.out.size))
    have k5 := Lib.hid (show Below w1.heap.size w1 w5 from k4.out.trans (hb.mono k4.out.size))
    clear hb LR
    have hr := of_decide_eq_true ep
    have HS := Lib.hid (fun i (hi : i < n) => (hr.2.2 i hi).1)
    have LB := Lib.hid (ldS_bd (N := N) (F := F) HS.out)
    have hn2 : n ≤ 32 := by omega
    have DG := Lib.hid (fun (z : 0 ≤ t) => show D = duL P F t n by rw [← eD]; exact if_pos ⟨ep, z⟩)
    have DN := Lib.hid (fun (z : t < 0) => show D = [] by rw [← eD]; exact if_neg (fun h => by omega))
    clear hr ep eD
    obtain ⟨dl, edl⟩ : ∃ z, D.length = z := ⟨_, rfl⟩
    have EDL := Lib.hid edl
    rw [edl]
    clear edl hcl
    obtain ⟨KL, eKL⟩ : ∃ KL : Nat → Nat, ∀ i, KL i = if 0 ≤ t then (duL P F t i).length else 0 := ⟨_, fun _ => rfl⟩
    have KE := Lib.hid eKL
    clear eKL
    go_wp2_with fail
    go_loopw [8, 9, 10] (fun kk s i v => ∃ m : Nat, m ≤ n ∧ kk = .int .i64 (KL m : Int) ∧ s = .int .i64 (ldS P m) ∧ i = .int .i64 (m : Int) ∧ Hid (Below w.heap.size w v) ∧ Hid (Below w1.heap.size w1 v)) (fun _ _ i _ => n - (intOf i).toNat)
    case atStart => exact ⟨0, by omega, by (rw [KE.out]; simp [duL]), rfl, rfl, h5, k5⟩
    case round =>
      obtain ⟨m, hm, rfl, rfl, rfl, hb, kb⟩ := hrel
      generalize wr = v at *
      have L1 := LB.out m hm
      by_cases hlt : m < n
      · obtain ⟨b, off, ea, hbb, c0, c1, c2⟩ := (HH.out v hb.out).at hlt
        subst ea
        have hsr := HS.out m hlt
        have hs := of_decide_eq_true hsr
        have j1 : (m : Int) < (n : Int) := by omega
        have j2 : IntKind.i64.wrap ((m : Int) + 1) = (m : Int) + 1 := by rw [IntKind.wrap_i64]; omega
        have j3 : 0 ≤ (m : Int) := by omega
        have p0 : ¬ P m = 0 := by omega
        have p1 : (P m == 0) = false := beq_eq_false_iff_ne.2 p0
        have e1 : 0 ≤ 1000000 / P m := Int.ediv_nonneg (by omega) (by omega)
        have e2 : 1000000 / P m ≤ 1000000 := Int.ediv_le_self _ (by omega)
        have tm : Int.tdiv 1000000 (P m) = 1000000 / P m := Int.tdiv_eq_ediv_of_nonneg (by omega)
        have wf1 : IntKind.i64.wrap (1000000 / P m) = 1000000 / P m := by rw [IntKind.wrap_i64]; omega
        have wf2 : IntKind.i64.wrap (ldS P m + 1000000 / P m) = ldS P m + 1000000 / P m := by rw [IntKind.wrap_i64]; omega
        have LE := Lib.hid (show ldS P (m + 1) = ldS P m + 1000000 / P m from rfl)
        obtain ⟨s, es⟩ : ∃ s, ldS P m = s := ⟨_, rfl⟩
        rw [es] at LE wf2 ⊢
        clear L1 es hs e1 e2 hbb
        by_cases z : t < 0
        · have z1 : decide (t < 0) = true := decide_eq_true z
          have K0 := Lib.hid (show KL (m + 1) = KL m by rw [KE.out, KE.out, if_neg (by omega), if_neg (by omega)])
          go_wp2
          go_roundw
          case rel => exact ⟨m + 1, by omega, by rw [K0.out], by rw [LE.out], by first | rfl | go_num, hb, kb⟩
          case measure => simp [intOf]; omega
        · have z1 : decide (t < 0) = false := decide_eq_false z
          have DT := ldue (N m) (P m) (F m) t v hsr ht
          rw [du_dt hsr] at DT
          obtain ⟨d, ed⟩ : ∃ d, dtB (P m) (F m) t = d := ⟨_, rfl⟩
          rw [ed] at DT
          replace DT := Lib.hid DT
          have K1 := Lib.hid (show KL m = (duL P F t m).length by rw [KE.out, if_pos (by omega)])
          have K2 := Lib.hid (show KL (m + 1) = (duL P F t (m + 1)).length by rw [KE.out, if_pos (by omega)])
          cases d
          · have K0 := Lib.hid (show KL (m + 1) = KL m by rw [K1.out, K2.out, duL_no ed])
            go_wp2_with fail
            refine DT.out.mono ?_
            rintro e u2 ⟨rfl, hb2⟩
            have hbW := Lib.hid (show Below w.heap.size w u2 from hb.out.trans (hb2.mono hb.out.size))
            have kbW := Lib.hid (show Below w1.heap.size w1 u2 from kb.out.trans (hb2.mono kb.out.size))
            clear hb2 DT
            go_wp2
            go_roundw
            case rel => exact ⟨m + 1, by omega, by rw [K0.out], by rw [LE.out], by first | rfl | go_num, hbW, kbW⟩
            case measure => simp [intOf]; omega
          · have K0 := Lib.hid (show KL (m + 1) = KL m + 1 by rw [K1.out, K2.out, duL_yes ed, List.length_append]; rfl)
            obtain ⟨g1, g2⟩ := duL_get ed n hlt
            rw [← DG.out (by omega), ← K1.out] at g1 g2
            go_wp2_with fail
            refine DT.out.mono ?_
            rintro e u2 ⟨rfl, hb2⟩
            have hbW := Lib.hid (show Below w.heap.size w u2 from hb.out.trans (hb2.mono hb.out.size))
            have kbW := Lib.hid (show Below w1.heap.size w1 u2 from kb.out.trans (hb2.mono kb.out.size))
            clear hb2 DT
            obtain ⟨ao, cp, ex, -, hn0, hs0⟩ := (XO.out u2 kbW.out).row
            injection ex with ex1 ex2 ex3
            subst ex1
            have hne : D ≠ [] := fun e => by rw [e] at g2; simp at g2
            cases al with
            | none => exact absurd (by have := (hn0 rfl).1; simpa [lvals] using this) hne
            | some ad =>
              obtain ⟨gb, go_, sp⟩ := ad
              obtain ⟨s1, -, -, s4⟩ := hs0 _ rfl
              have s1 : sp = none := s1
              subst s1
              have ck := s4 (KL m) (.int .i64 (m : Int)) (by simp [lvals, g1])
              have ck : u2.cell? ⟨gb, go_ + KL m, none⟩ = some (.int .i64 (m : Int)) := ck
              rw [EDL.out] at g2
              have r1 : (KL m : Int) < (dl : Int) := by omega
              have r2 : ¬ (dl : Int) ≤ (KL m : Int) := by omega
              have r3 : decide ((dl : Int) ≤ (KL m : Int)) = false := decide_eq_false r2
              have r4 : 0 ≤ (KL m : Int) := by omega
              have r6 : dl ≤ 32 := by have e := DG.out (by omega); have := duL_len P F t n; rw [← EDL.out, e]; omega
              have r5 : IntKind.i64.wrap ((KL m : Int) + 1) = (KL m : Int) + 1 := by rw [IntKind.wrap_i64]; omega
              have r7 : ((m : Int) != (m : Int)) = false := by simp
              have r8 : ((m : Int) == (m : Int)) = true := by simp
              clear hs0 s4 hn0 g1 hne ex2 ex3
              go_wp2
              go_roundw
              case rel => exact ⟨m + 1, by omega, by rw [K0.out]; first | rfl | go_num, by rw [LE.out], by first | rfl | go_num, hbW, kbW⟩
              case measure => simp [intOf]; omega
      · obtain rfl : m = n := by omega
        have j1 : ¬ (m : Int) < (m : Int) := by omega
        have tm : Int.tdiv (ldS P m) 1000 = ldS P m / 1000 := Int.tdiv_eq_ediv_of_nonneg (by omega)
        have wf1 : IntKind.i64.wrap (ldS P m / 1000) = ldS P m / 1000 := by rw [IntKind.wrap_i64]; omega
        have KD : KL m = D.length := by
            rw [KE.out]
            by_cases z : 0 ≤ t
            · rw [if_pos z, DG.out z]
            · rw [if_neg z, DN.out (by omega)]; rfl
        rw [EDL.out] at KD
        rw [KD]
        skip
        have r8 : ((dl : Int) == (dl : Int)) = true := by simp
        have r9 : (ldS P m / 1000 == ldS P m / 1000) = true := by simp
        go_wp2_with fail
        refine (LV.out _).mono ?_
        rintro e u9 ⟨rfl, hb9⟩
        have hb8 := Lib.hid (show Below w.heap.size w u9 from hb.out.trans (hb9.mono hb.out.size))
        clear hb9
        go_wp2
        go_ret
        exact ⟨rfl, hb8.out⟩
end Go.Proofs.Ytcpmdgbogdikiaa
