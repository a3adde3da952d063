/- The document's Lasted; walked. -/
import Derived.Test.YtfejdbmamaggpaaDoorMaint4
import Derived.Test.YtfejdbmamaggpaaDoorMaint5
import Derived.Deep.CutRange
namespace Go.Proofs.YtfejdbmamaggpaaDoor
open Go.ChangeShapes Go.WideShapes Go.ChangeAt Go.RowKit
set_option linter.unusedVariables false
set_option linter.unusedSimpArgs false
theorem cnt_idx {T C A : Nat → Int} {c : Int} : ∀ (N : Nat) {p : Nat}, p < cnt T C A c N → cnt T C A c (idx T C A c N p) = p
  | 0, p, h => by simp [cnt, grL] at h
  | N + 1, p, h => by
    by_cases q : p < cnt T C A c N
    · rw [idx_pre 1 q]; exact cnt_idx N q
    · cases g : gdB T C A c N with
      | false => rw [cnt_no g] at h; exact absurd h q
      | true =>
        rw [cnt_yes g] at h
        have e : p = cnt T C A c N := by omega
        rw [e, idx_at g (by omega)]
theorem gd_rp {T C A : Nat → Int} {c : Int} {i : Nat} (hm : hmB c = true) (h : gdB T C A c i = true) : (0 ≤ T i ∧ T i ≤ 1000000) ∧ (0 ≤ A i ∧ A i < 6) := by
  unfold gdB at h
  rw [Bool.and_eq_true, decide_eq_true_iff] at h
  obtain ⟨hc, h⟩ := h
  unfold rpB at h
  rw [hc, hm] at h
  simp only [Bool.and_eq_true, decide_eq_true_iff, if_true] at h
  omega
theorem cnt_mono (T C A : Nat → Int) (c : Int) (k : Nat) : ∀ d, cnt T C A c k ≤ cnt T C A c (k + d)
  | 0 => Nat.le_refl _
  | d + 1 => by
    have ih := cnt_mono T C A c k d
    cases g : gdB T C A c (k + d) with
    | true => rw [← Nat.add_assoc, cnt_yes g]; omega
    | false => rw [← Nat.add_assoc, cnt_no g]; exact ih
structure ChF (q : Nat) (tF aF : Nat → Int) : Prop where
  a : ∀ p, p < q → 0 ≤ aF p ∧ aF p < 6
  t : ∀ p, p < q → 0 ≤ tF p ∧ tF p ≤ 1000000
  m : ∀ p, p + 1 < q → tF p ≤ tF (p + 1)
theorem chf {T C A : Nat → Int} {c : Int} {N : Nat} (hm : hmB c = true) (hN1 : ∀ k, k < N → brB T C A c k = false) : ChF (cnt T C A c N) (fun p => T (idx T C A c N p)) (fun p => A (idx T C A c N p)) :=
  ⟨fun p hp => (gd_rp hm (idx_good hp).2).2, fun p hp => (gd_rp hm (idx_good hp).2).1, fun p hp => by
    have g := idx_good hp
    have hb := hN1 _ g.1
    have hc := cnt_idx N hp
    unfold brB at hb
    rw [g.2, hc, decide_eq_true (show 0 < p + 1 by omega)] at hb
    simp only [Bool.true_and, decide_eq_false_iff_not] at hb
    have hp2 : p < cnt T C A c (idx T C A c N (p + 1)) := by rw [hc]; omega
    have e := idx_pre (T := T) (C := C) (A := A) (c := c) (N := idx T C A c N (p + 1)) (N - idx T C A c N (p + 1)) hp2
    rw [show idx T C A c N (p + 1) + (N - idx T C A c N (p + 1)) = N by omega] at e
    rw [show p + 1 - 1 = p by omega, ← e] at hb
    show T (idx T C A c N p) ≤ T (idx T C A c N (p + 1))
    omega⟩
set_option maxRecDepth 100000 in
set_option maxHeartbeats 8000000 in
theorem rlast_no (a : Option Addr) (n cap : Nat) (c e : Int) (tF aF : Nat → Int) (w : World) (hm : hmB c = false) : Calls Tryd.prog 48 #[.slice a n cap, .int .i64 c, .int .i64 e] w fun r w' => r = .returned (agg6 (lsZ tF aF 0 e)) ∧ Below w.heap.size w w' := by
  obtain ⟨V, eV, hbV, hsV, HZ, HX⟩ := two_six w
  obtain ⟨B, eB⟩ : ∃ B, w.heap.size = B := ⟨_, rfl⟩
  rw [eB] at hbV hsV HZ HX
  obtain ⟨q, hq⟩ : ∃ q, q = 0 := ⟨_, rfl⟩
  rw [← hq]
  have HXZ : Held (B + 1) (a6 (lsZ tF aF q e)) V := by
    rw [show lsZ tF aF q e = fun _ => 0 from by funext m; rw [hq]; unfold lsZ; rw [if_neg (by omega)]; rfl]
    exact HX
  replace eV := Lib.hid eV
  have hb := Lib.hid hbV
  replace HZ := Lib.hid HZ
  unfold hmB at hm
  rw [Bool.or_eq_false_iff] at hm
  have y1 : (c != 10) = true := by unfold bne; rw [hm.1]; rfl
  have y2 : (c != 11) = true := by unfold bne; rw [hm.2]; rfl
  rw [eB]
  clear hbV HX hq hm
  obtain ⟨Z, eZ⟩ : ∃ Z, lsZ tF aF q e = Z := ⟨_, rfl⟩
  rw [eZ] at HXZ
  have EZ := Lib.hid eZ
  clear eZ
  have x0 := (HXZ.one 0 rfl).1
  obtain ⟨z0, f0⟩ := HZ.out.one 0 rfl
  have x1 := (HXZ.one 1 rfl).1
  obtain ⟨z1, f1⟩ := HZ.out.one 1 rfl
  have x2 := (HXZ.one 2 rfl).1
  obtain ⟨z2, f2⟩ := HZ.out.one 2 rfl
  have x3 := (HXZ.one 3 rfl).1
  obtain ⟨z3, f3⟩ := HZ.out.one 3 rfl
  have x4 := (HXZ.one 4 rfl).1
  obtain ⟨z4, f4⟩ := HZ.out.one 4 rfl
  have x5 := (HXZ.one 5 rfl).1
  obtain ⟨z5, f5⟩ := HZ.out.one 5 rfl
  clear HXZ
  go_enter Tryd.func48, Tryd.ntmps48
  go_upto_region 2 with (fail)
  try rw [eB]
  rw [← eV.out]
  go_wp2
  have hF := (((((HZ.out.set 0 (.int .i64 (Z 0)) (by simp [a6])).set 1 (.int .i64 (Z 1)) (by simp [a6])).set 2 (.int .i64 (Z 2)) (by simp [a6])).set 3 (.int .i64 (Z 3)) (by simp [a6])).set 4 (.int .i64 (Z 4)) (by simp [a6])).set 5 (.int .i64 (Z 5)) (by simp [a6])
  have hL := Lib.hid ((((((hb.out.setCell (p := ⟨B, 0, none⟩) (Nat.le_refl B) (.int .i64 (Z 0))).setCell (p := ⟨B, 1, none⟩) (Nat.le_refl B) (.int .i64 (Z 1))).setCell (p := ⟨B, 2, none⟩) (Nat.le_refl B) (.int .i64 (Z 2))).setCell (p := ⟨B, 3, none⟩) (Nat.le_refl B) (.int .i64 (Z 3))).setCell (p := ⟨B, 4, none⟩) (Nat.le_refl B) (.int .i64 (Z 4))).setCell (p := ⟨B, 5, none⟩) (Nat.le_refl B) (.int .i64 (Z 5)))
  generalize (((((V.setCell ⟨B, 0, none⟩ (.int .i64 (Z 0))).setCell ⟨B, 1, none⟩ (.int .i64 (Z 1))).setCell ⟨B, 2, none⟩ (.int .i64 (Z 2))).setCell ⟨B, 3, none⟩ (.int .i64 (Z 3))).setCell ⟨B, 4, none⟩ (.int .i64 (Z 4))).setCell ⟨B, 5, none⟩ (.int .i64 (Z 5)) = uF at *
  have d0 := (hF.one 0 rfl).1
  have d1 := (hF.one 1 rfl).1
  have d2 := (hF.one 2 rfl).1
  have d3 := (hF.one 3 rfl).1
  have d4 := (hF.one 4 rfl).1
  have d5 := (hF.one 5 rfl).1
  refine bodyPost_ret (v := agg6 Z) (by simp [results, Tryd.results48, go_sem, d0, d1, d2, d3, d4, d5, agg6]) rfl ⟨by rw [EZ.out], ?_⟩
  exact hL.out
set_option maxRecDepth 100000 in
set_option maxHeartbeats 8000000 in
theorem rlast (a : Option Addr) (n cap : Nat) (T C A : Nat → Int) (c e : Int) (N : Nat) (w : World) (h : Pl w a n T C A) (hn : n ≤ 1000) (hm : hmB c = true) (hN : N ≤ n) (hN1 : ∀ k, k < N → brB T C A c k = false) (hN2 : N = n ∨ brB T C A c N = true) (he : -1000000000 ≤ e ∧ e ≤ 1000000000) : Calls Tryd.prog 48 #[.slice a n cap, .int .i64 c, .int .i64 e] w fun r w' => r = .returned (agg6 (lsZ (fun p => T (idx T C A c N p)) (fun p => A (idx T C A c N p)) (cnt T C A c N) e)) ∧ Below w.heap.size w w' := by
  have CF := chf hm hN1
  obtain ⟨V, eV, hbV, hsV, HZ, HX⟩ := two_six w
  obtain ⟨B, eB⟩ : ∃ B, w.heap.size = B := ⟨_, rfl⟩
  have HP := Lib.hid (fun u (k : Below w.heap.size w u) => h.below k)
  rw [eB] at hbV hsV HZ HX HP
  replace hN1 := Lib.hid hN1
  replace hN2 := Lib.hid hN2
  have RT := Lib.hid (fun k u => rtold (T k) (C k) (A k) u)
  obtain ⟨tF, etF⟩ : ∃ tF : Nat → Int, tF = fun p => T (idx T C A c N p) := ⟨_, rfl⟩
  obtain ⟨aF, eaF⟩ : ∃ aF : Nat → Int, aF = fun p => A (idx T C A c N p) := ⟨_, rfl⟩
  obtain ⟨q, eq⟩ : ∃ q, cnt T C A c N = q := ⟨_, rfl⟩
  rw [← etF, ← eaF, eq] at CF ⊢
  have CF := Lib.hid CF
  have FF := Lib.hid (And.intro etF eaF)
  have EQ := Lib.hid eq
  obtain ⟨MO, eMO⟩ : ∃ MO : Nat → Int, ∀ j, MO j = if j = 0 then -1 else aF (j - 1) := ⟨fun j => if j = 0 then -1 else aF (j - 1), fun _ => rfl⟩
  obtain ⟨SI, eSI⟩ : ∃ SI : Nat → Int, ∀ j, SI j = if j = 0 then 0 else tF (j - 1) := ⟨fun j => if j = 0 then 0 else tF (j - 1), fun _ => rfl⟩
  replace eMO := Lib.hid eMO
  replace eSI := Lib.hid eSI
  have CQ := Lib.hid (show ∀ k, k ≤ N → cnt T C A c k ≤ q from fun k hk => by
    obtain ⟨d, rfl⟩ : ∃ d, N = k + d := ⟨N - k, by omega⟩
    rw [← EQ.out]
    exact cnt_mono T C A c k d)
  replace eV := Lib.hid eV
  rw [eB]
  have hb0 := Lib.hid hbV
  have HZ0 := Lib.hid HZ
  have HX0 := Lib.hid (show Held (B + 1) (a6 (lsY tF aF 0)) V from HX)
  have hz0 := Lib.hid (show B + 2 ≤ V.heap.size by omega)
  clear h HX HZ hbV hsV eq etF eaF
  have hm2 := hm
  unfold hmB at hm2
  go_enter Tryd.func48, Tryd.ntmps48
  go_upto_region 2 with (fail)
  try rw [eB]
  rw [← eV.out]
  go_cut [16] from 11 (fun s u => s = .bool false ∧ u = V)
  case first =>
    by_cases z : c = 10
    · have y : (c != 10) = false := by simp [z]
      clear z hm2
      go_wp2_with fail
      go_meet
      case rel => exact ⟨rfl, rfl⟩
    · have y : (c != 10) = true := by simp [z]
      have y2 : (c != 11) = false := by
        rw [Bool.or_eq_true, beq_iff_eq, beq_iff_eq] at hm2
        rcases hm2 with h | h
        · exact absurd h z
        · simp [h]
      clear z hm2
      go_wp2_with fail
      go_meet
      case rel => exact ⟨rfl, rfl⟩
  case rest =>
    obtain ⟨rfl, rfl⟩ := hcut
    clear hm2
    go_wp2_with fail
    go_loopw [8, 9, 10] (fun m s i v => ∃ k : Nat, k ≤ N ∧ m = .int .i64 (MO (cnt T C A c k)) ∧ s = .int .i64 (SI (cnt T C A c k)) ∧ i = .int .i64 (k : Int) ∧ Hid (Below B w v) ∧ Hid (Held B (a6 fun _ => 0) v) ∧ Hid (Held (B + 1) (a6 (lsY tF aF (cnt T C A c k))) v) ∧ Hid (B + 2 ≤ v.heap.size)) (fun _ _ i _ => n - (intOf i).toNat)
    case atStart => exact ⟨0, by omega, by rw [eMO.out]; rfl, by rw [eSI.out]; rfl, rfl, hb0, HZ0, HX0, hz0⟩
    case round =>
      obtain ⟨k, hk, rfl, rfl, rfl, hb, HZ, HX, hz⟩ := hrel
      generalize wr = v at *
      have hjq := CQ.out k hk
      by_cases hlt : k < n
      · obtain ⟨b, off, ea, hbb, p0, p1, p2⟩ := (HP.out v hb.out).at hlt
        subst ea
        have j1 : (k : Int) < (n : Int) := by omega
        have j2 : IntKind.i64.wrap ((k : Int) + 1) = (k : Int) + 1 := by rw [IntKind.wrap_i64]; omega
        have j3 : 0 ≤ (k : Int) := by omega
        have GD := Lib.hid (show gdB T C A c k = (decide (C k = c) && rpB (T k) (C k) (A k)) from rfl)
        have KN := Lib.hid (fun (hg : gdB T C A c k = false) => show k < N by
          rcases Nat.lt_or_ge k N with q | q
          · exact q
          · have e : k = N := by omega
            rcases hN2.out with r | r
            · omega
            · rw [← e] at r; unfold brB at r; rw [hg] at r; simp at r)
        obtain ⟨j, ej⟩ : ∃ j, cnt T C A c k = j := ⟨_, rfl⟩
        have EJ := Lib.hid ej
        have YB := Lib.hid (show ∀ m, 0 ≤ lsY tF aF j m ∧ lsY tF aF j m ≤ 1000000 from fun m => by
          rw [ej] at hjq
          rcases Nat.eq_zero_or_pos j with z | z
          · subst z; rw [lsY]; omega
          · have h1 := (lsY_ok CF.out.a CF.out.m (j - 1) (by omega)).1 m
            rw [show j - 1 + 1 = j by omega] at h1
            have h2 := CF.out.t (j - 1) (by omega)
            have h3 := CF.out.t 0 (by omega)
            omega)
        rw [ej] at HX hjq ⊢
        by_cases zc : C k = c
        rotate_left
        · have y : (C k != c) = true := by simp [zc]
          have hg : gdB T C A c k = false := by rw [GD.out, decide_eq_false zc]; rfl
          have hc := Lib.hid (cnt_no hg)
          rw [ej] at hc
          have hkN := KN.out hg
          clear hg GD KN zc ej
          go_wp2
          go_roundw
          case rel => exact ⟨k + 1, by omega, by rw [hc.out], by rw [hc.out], by first | rfl | go_num, hb, HZ, by rw [hc.out]; exact HX, hz⟩
          case measure => simp [intOf]; omega
        have y : (C k != c) = false := by simp [zc]
        have RPk := RT.out k v
        rw [td_rp (show hmB (C k) = true by rw [zc]; exact hm)] at RPk
        obtain ⟨r, er⟩ : ∃ r, rpB (T k) (C k) (A k) = r := ⟨_, rfl⟩
        rw [er] at RPk GD
        replace RPk := Lib.hid RPk
        rw [decide_eq_true zc, Bool.true_and] at GD
        clear er
        cases r
        · have hg := GD.out
          have hc := Lib.hid (cnt_no hg)
          rw [ej] at hc
          have hkN := KN.out hg
          clear hg GD KN zc ej
          go_wp2_with fail
          refine RPk.out.mono ?_
          rintro r u2 ⟨rfl, hb2⟩
          have hb3 := Lib.hid (show Below B w u2 from hb.out.trans (hb2.mono (by have := hz.out; omega)))
          have HZ3 := Lib.hid (HZ.out.bel hb2)
          have HX3 := Lib.hid (HX.out.bel hb2)
          have hz3 := Lib.hid (Nat.le_trans hz.out hb2.size)
          clear hb2 RPk
          go_wp2
          go_roundw
          case rel => exact ⟨k + 1, by omega, by rw [hc.out], by rw [hc.out], by first | rfl | go_num, hb3, HZ3, by rw [hc.out]; exact HX3, hz3⟩
          case measure => simp [intOf]; omega
        have hg := Lib.hid GD.out
        have hc := Lib.hid (cnt_yes hg.out)
        have PRE := Lib.hid (fun p (hp : p < cnt T C A c k) => (show idx T C A c N p = idx T C A c k p by
          have := idx_pre (T := T) (C := C) (A := A) (c := c) (N := k) (N - k) hp
          rwa [show k + (N - k) = N by omega] at this))
        have BR := Lib.hid (show brB T C A c k = (gdB T C A c k && decide (0 < cnt T C A c k) && decide (T k < T (idx T C A c k (cnt T C A c k - 1)))) from rfl)
        have IDX := Lib.hid (fun (q : k < N) => idx_at hg.out q)
        rw [ej] at hc PRE BR IDX
        rw [hg.out] at BR
        have VAL := Lib.hid (fun (r : k < N) => (show tF j = T k ∧ aF j = A k by
          rw [FF.out.1, FF.out.2]
          show T (idx T C A c N j) = T k ∧ A (idx T C A c N j) = A k
          rw [IDX.out r]
          exact ⟨rfl, rfl⟩))
        have EVB := gd_rp hm hg.out
        clear GD KN zc ej hg
        have RUN : ∀ u2, Below v.heap.size v u2 → Hid (Below B w u2) ∧ Hid (Held B (a6 fun _ => 0) u2) ∧ Hid (Held (B + 1) (a6 (lsY tF aF j)) u2) ∧ Hid (B + 2 ≤ u2.heap.size) ∧ u2.cell? ⟨b, off + k * 3, none⟩ = some (.int .i64 (T k)) ∧ u2.cell? ⟨b, off + k * 3 + 2, none⟩ = some (.int .i64 (A k)) := fun u2 hb2 => ⟨Lib.hid (hb.out.trans (hb2.mono (by have := hz.out; omega))), Lib.hid (HZ.out.bel hb2), Lib.hid (HX.out.bel hb2), Lib.hid (Nat.le_trans hz.out hb2.size), (bc hb2 hbb).trans p0, (bc hb2 hbb).trans p2⟩
        have RUN := Lib.hid RUN
        clear hb HZ HX hz
        rcases Nat.eq_zero_or_pos j with z | z
        · subst z
          have hkN := Lib.hid (show k < N by
            rcases Nat.lt_or_ge k N with r | r
            · exact r
            · have e : k = N := by omega
              rcases hN2.out with s | s
              · omega
              · rw [← e, BR.out] at s; simp at s)
          have m0 : MO 0 = -1 := by rw [eMO.out]; rfl
          have s0 : SI 0 = 0 := by rw [eSI.out]; rfl
          have m1 := Lib.hid (show MO (0 + 1) = A k by rw [eMO.out]; exact (VAL.out hkN.out).2)
          have s1 := Lib.hid (show SI (0 + 1) = T k by rw [eSI.out]; exact (VAL.out hkN.out).1)
          rw [m0, s0]
          clear m0 s0
          have n0 : decide ((0 : Int) ≤ -1) = false := by decide
          go_wp2_with fail
          refine RPk.out.mono ?_
          rintro r u2 ⟨rfl, hb2⟩
          obtain ⟨hb3, HZ3, HX3, hz3, p0, p2⟩ := RUN.out u2 hb2
          clear hb2 RPk RUN
          go_wp2
          go_roundw
          case rel => exact ⟨k + 1, by have := hkN.out; omega, by rw [hc.out, m1.out], by rw [hc.out, s1.out], by first | rfl | go_num, hb3, HZ3, by rw [hc.out]; exact HX3, hz3⟩
          case measure => simp [intOf]; omega
        · obtain ⟨K, hK⟩ : ∃ K : Nat, aF (j - 1) = (K : Int) := ⟨(aF (j - 1)).toNat, by have := CF.out.a (j - 1) (by omega); omega⟩
          have hK6 : K < 6 := by have := CF.out.a (j - 1) (by omega); omega
          have hS := CF.out.t (j - 1) (by omega)
          obtain ⟨S1, eS1⟩ : ∃ z, tF (j - 1) = z := ⟨_, rfl⟩
          rw [eS1] at hS
          have m0 : MO j = (K : Int) := by rw [eMO.out, if_neg (by omega)]; exact hK
          have s0 : SI j = S1 := by rw [eSI.out, if_neg (by omega)]; exact eS1
          have BR := Lib.hid (show brB T C A c k = decide (T k < S1) by
            rw [BR.out, decide_eq_true z, ← PRE.out (j - 1) (by omega), ← eS1, FF.out.1]; rfl)
          have k0 : 0 ≤ (K : Int) := by omega
          have k6 : (K : Int) < 6 := by omega
          have n0 : decide ((0 : Int) ≤ (K : Int)) = true := decide_eq_true k0
          have yb := YB.out (aF (j - 1))
          rw [hK] at yb
          have JJ := Lib.hid z
          clear z
          by_cases zz : T k < S1
          · have n1 : decide (T k < S1) = true := decide_eq_true zz
            have hkN := Lib.hid (show k = N by
              rcases Nat.lt_or_ge k N with r | r
              · have := hN1.out k r; rw [BR.out, n1] at this; cases this
              · omega)
            obtain rfl : q = j := by rw [← EQ.out, ← EJ.out, hkN.out]
            rw [m0, s0]
            go_wp2_with fail
            refine RPk.out.mono ?_
            rintro r u2 ⟨rfl, hb2⟩
            obtain ⟨hb, HZ, HX, hz, p0, p2⟩ := RUN.out u2 hb2
            clear hb2 RPk RUN VAL PRE IDX BR YB
            have ZZ := Lib.hid (show lsZ tF aF q e = fun m => if m = (K : Int) then lsY tF aF q (K : Int) + (max e S1 - S1) else lsY tF aF q m by
              funext m
              unfold lsZ
              rw [hK, eS1]
              by_cases g : m = (K : Int)
              · rw [if_pos ⟨JJ.out, g⟩, if_pos g, g]
              · rw [if_neg (fun h => g h.2), if_neg g]; omega)
            obtain ⟨YK, eYK⟩ : ∃ z, lsY tF aF q (K : Int) = z := ⟨_, rfl⟩
            have XK := Lib.hid (show (a6 (lsY tF aF q))[K]? = some (.int .i64 YK) by rw [a6_at _ hK6, eYK])
            rw [eYK] at yb ZZ
            clear m0 s0 hK eS1
            by_cases ze : S1 < e
            · have n2 : decide (S1 < e) = true := decide_eq_true ze
              have w1 : IntKind.i64.wrap (YK + e) = YK + e := by rw [IntKind.wrap_i64]; omega
              have w2 : IntKind.i64.wrap (YK + e - S1) = YK + e - S1 := by rw [IntKind.wrap_i64]; omega
              have hmx : YK + (max e S1 - S1) = YK + e - S1 := by omega
              obtain ⟨xc, xf⟩ := HX.out.one K XK.out
              have HXZ : Held (B + 1) (a6 (lsZ tF aF q e)) (u2.setCell ⟨B + 1, K, none⟩ (.int .i64 (YK + e - S1))) := by
                have h1 := HX.out.set K (.int .i64 (YK + e - S1)) (by simp [a6]; omega)
                rw [a6_set _ _ hK6] at h1
                rw [ZZ.out, hmx]
                exact h1
              have HZ := Lib.hid (show Held B (a6 fun _ => 0) (u2.setCell ⟨B + 1, K, none⟩ (.int .i64 (YK + e - S1))) from HZ.out.only ((Only.refl (B + 1) u2).setCell (p := ⟨B + 1, K, none⟩) _) (show B ≠ B + 1 by omega))
              have hb := Lib.hid (hb.out.setCell (p := ⟨B + 1, K, none⟩) (Nat.le_succ B) (.int .i64 (YK + e - S1)))
              clear eYK hmx
              go_upto_region 16 with (fail)
              generalize u2.setCell ⟨B + 1, K, none⟩ (.int .i64 (YK + e - S1)) = W9 at *
              obtain ⟨Z, eZ⟩ : ∃ Z, lsZ tF aF q e = Z := ⟨_, rfl⟩
              rw [eZ] at HXZ
              have EZ := Lib.hid eZ
              clear eZ
              have x0 := (HXZ.one 0 rfl).1
              obtain ⟨z0, f0⟩ := HZ.out.one 0 rfl
              have x1 := (HXZ.one 1 rfl).1
              obtain ⟨z1, f1⟩ := HZ.out.one 1 rfl
              have x2 := (HXZ.one 2 rfl).1
              obtain ⟨z2, f2⟩ := HZ.out.one 2 rfl
              have x3 := (HXZ.one 3 rfl).1
              obtain ⟨z3, f3⟩ := HZ.out.one 3 rfl
              have x4 := (HXZ.one 4 rfl).1
              obtain ⟨z4, f4⟩ := HZ.out.one 4 rfl
              have x5 := (HXZ.one 5 rfl).1
              obtain ⟨z5, f5⟩ := HZ.out.one 5 rfl
              clear HXZ
              go_wp2
              have hF := (((((HZ.out.set 0 (.int .i64 (Z 0)) (by simp [a6])).set 1 (.int .i64 (Z 1)) (by simp [a6])).set 2 (.int .i64 (Z 2)) (by simp [a6])).set 3 (.int .i64 (Z 3)) (by simp [a6])).set 4 (.int .i64 (Z 4)) (by simp [a6])).set 5 (.int .i64 (Z 5)) (by simp [a6])
              have hL := Lib.hid ((((((hb.out.setCell (p := ⟨B, 0, none⟩) (Nat.le_refl B) (.int .i64 (Z 0))).setCell (p := ⟨B, 1, none⟩) (Nat.le_refl B) (.int .i64 (Z 1))).setCell (p := ⟨B, 2, none⟩) (Nat.le_refl B) (.int .i64 (Z 2))).setCell (p := ⟨B, 3, none⟩) (Nat.le_refl B) (.int .i64 (Z 3))).setCell (p := ⟨B, 4, none⟩) (Nat.le_refl B) (.int .i64 (Z 4))).setCell (p := ⟨B, 5, none⟩) (Nat.le_refl B) (.int .i64 (Z 5)))
              generalize (((((W9.setCell ⟨B, 0, none⟩ (.int .i64 (Z 0))).setCell ⟨B, 1, none⟩ (.int .i64 (Z 1))).setCell ⟨B, 2, none⟩ (.int .i64 (Z 2))).setCell ⟨B, 3, none⟩ (.int .i64 (Z 3))).setCell ⟨B, 4, none⟩ (.int .i64 (Z 4))).setCell ⟨B, 5, none⟩ (.int .i64 (Z 5)) = uF at *
              have d0 := (hF.one 0 rfl).1
              have d1 := (hF.one 1 rfl).1
              have d2 := (hF.one 2 rfl).1
              have d3 := (hF.one 3 rfl).1
              have d4 := (hF.one 4 rfl).1
              have d5 := (hF.one 5 rfl).1
              refine bodyPost_ret (v := agg6 Z) (by simp [results, Tryd.results48, go_sem, d0, d1, d2, d3, d4, d5, agg6]) rfl ⟨by rw [EZ.out], ?_⟩
              exact hL.out
            · have n2 : decide (S1 < e) = false := decide_eq_false ze
              have HXZ : Held (B + 1) (a6 (lsZ tF aF q e)) u2 := by
                rw [ZZ.out, show YK + (max e S1 - S1) = YK by omega, ← eYK]
                rw [show (fun m => if m = (K : Int) then lsY tF aF q (K : Int) else lsY tF aF q m) = lsY tF aF q from by funext m; by_cases g : m = (K : Int); rw [if_pos g, g]; rw [if_neg g]]
                exact HX.out
              clear eYK
              obtain ⟨Z, eZ⟩ : ∃ Z, lsZ tF aF q e = Z := ⟨_, rfl⟩
              rw [eZ] at HXZ
              have EZ := Lib.hid eZ
              clear eZ
              have x0 := (HXZ.one 0 rfl).1
              obtain ⟨z0, f0⟩ := HZ.out.one 0 rfl
              have x1 := (HXZ.one 1 rfl).1
              obtain ⟨z1, f1⟩ := HZ.out.one 1 rfl
              have x2 := (HXZ.one 2 rfl).1
              obtain ⟨z2, f2⟩ := HZ.out.one 2 rfl
              have x3 := (HXZ.one 3 rfl).1
              obtain ⟨z3, f3⟩ := HZ.out.one 3 rfl
              have x4 := (HXZ.one 4 rfl).1
              obtain ⟨z4, f4⟩ := HZ.out.one 4 rfl
              have x5 := (HXZ.one 5 rfl).1
              obtain ⟨z5, f5⟩ := HZ.out.one 5 rfl
              clear HXZ
              go_wp2
              have hF := (((((HZ.out.set 0 (.int .i64 (Z 0)) (by simp [a6])).set 1 (.int .i64 (Z 1)) (by simp [a6])).set 2 (.int .i64 (Z 2)) (by simp [a6])).set 3 (.int .i64 (Z 3)) (by simp [a6])).set 4 (.int .i64 (Z 4)) (by simp [a6])).set 5 (.int .i64 (Z 5)) (by simp [a6])
              have hL := Lib.hid ((((((hb.out.setCell (p := ⟨B, 0, none⟩) (Nat.le_refl B) (.int .i64 (Z 0))).setCell (p := ⟨B, 1, none⟩) (Nat.le_refl B) (.int .i64 (Z 1))).setCell (p := ⟨B, 2, none⟩) (Nat.le_refl B) (.int .i64 (Z 2))).setCell (p := ⟨B, 3, none⟩) (Nat.le_refl B) (.int .i64 (Z 3))).setCell (p := ⟨B, 4, none⟩) (Nat.le_refl B) (.int .i64 (Z 4))).setCell (p := ⟨B, 5, none⟩) (Nat.le_refl B) (.int .i64 (Z 5)))
              generalize (((((u2.setCell ⟨B, 0, none⟩ (.int .i64 (Z 0))).setCell ⟨B, 1, none⟩ (.int .i64 (Z 1))).setCell ⟨B, 2, none⟩ (.int .i64 (Z 2))).setCell ⟨B, 3, none⟩ (.int .i64 (Z 3))).setCell ⟨B, 4, none⟩ (.int .i64 (Z 4))).setCell ⟨B, 5, none⟩ (.int .i64 (Z 5)) = uF at *
              have d0 := (hF.one 0 rfl).1
              have d1 := (hF.one 1 rfl).1
              have d2 := (hF.one 2 rfl).1
              have d3 := (hF.one 3 rfl).1
              have d4 := (hF.one 4 rfl).1
              have d5 := (hF.one 5 rfl).1
              refine bodyPost_ret (v := agg6 Z) (by simp [results, Tryd.results48, go_sem, d0, d1, d2, d3, d4, d5, agg6]) rfl ⟨by rw [EZ.out], ?_⟩
              exact hL.out
          · have n1 : decide (T k < S1) = false := decide_eq_false zz
            have hkN := Lib.hid (show k < N by
              rcases Nat.lt_or_ge k N with r | r
              · exact r
              · have e : k = N := by omega
                rcases hN2.out with s | s
                · omega
                · rw [← e, BR.out, n1] at s; cases s)
            obtain ⟨v1, v2⟩ := VAL.out hkN.out
            have m1 := Lib.hid (show MO (j + 1) = A k by rw [eMO.out, if_neg (by omega)]; exact v2)
            have s1 := Lib.hid (show SI (j + 1) = T k by rw [eSI.out, if_neg (by omega)]; exact v1)
            obtain ⟨YK, eYK⟩ : ∃ z, lsY tF aF j (K : Int) = z := ⟨_, rfl⟩
            have LY := Lib.hid (show lsY tF aF (j + 1) = fun m => if m = (K : Int) then YK + T k - S1 else lsY tF aF j m by
              obtain ⟨i, rfl⟩ : ∃ i, j = i + 1 := ⟨j - 1, by have := JJ.out; omega⟩
              funext m
              rw [lsY, show aF i = (K : Int) from hK, v1, show tF i = S1 from eS1]
              by_cases g : m = (K : Int)
              · rw [if_pos g, if_pos g, g, eYK]; omega
              · rw [if_neg g, if_neg g]; omega)
            rw [eYK] at yb
            rw [m0, s0]
            have w1 : IntKind.i64.wrap (YK + T k) = YK + T k := by rw [IntKind.wrap_i64]; omega
            have w2 : IntKind.i64.wrap (YK + T k - S1) = YK + T k - S1 := by rw [IntKind.wrap_i64]; omega
            have XK := Lib.hid (show (a6 (lsY tF aF j))[K]? = some (.int .i64 YK) by rw [a6_at _ hK6, eYK])
            clear m0 s0 hK eS1 v1 v2 eYK BR PRE IDX VAL YB zz
            go_wp2_with fail
            refine RPk.out.mono ?_
            rintro r u2 ⟨rfl, hb2⟩
            obtain ⟨hb3, HZ3, HX3, hz3, p0, p2⟩ := RUN.out u2 hb2
            clear hb2 RPk RUN
            obtain ⟨xc, xf⟩ := HX3.out.one K XK.out
            go_upto_region 11 with (fail)
            refine region_moves (fun y => y.cell? ⟨B + 1, K, none⟩ = some (.int .i64 YK) ∧ y.cell? ⟨b, off + k * 3, none⟩ = some (.int .i64 (T k))) [(13, [(12, 13), (11, 13), (0, 13), (1, 13), (2, 13), (3, 13), (4, 13), (5, 13), (6, 13), (7, 13), (8, 13), (9, 13), (10, 13)])] [(.free, 0), (.free, 1), (.free, 2), (.take, 3), (.free, 4), (.free, 5), (.free, 6), (.free, 7), (.take, 8), (.free, 9), (.free, 10), (.free, 11), (.free, 12), (.late, 13)] _ (by kernel_rfl) (by kernel_rfl) (by kernel_rfl) (by kernel_rfl) (by decide) rfl (fun _ _ _ _ _ h => h) ?_
            simp only [List.filterMap_cons, List.filterMap_nil, List.getElem?_toArray, List.getElem?_cons_zero, List.getElem?_cons_succ, Option.map_some]
            iterate 3
              first
                | (refine mv_free ?_ (Or.inl ⟨by rfl, ?_⟩) (⟨xc, p0⟩) ?_
                   rotate_left 1
                   · intro u
                     go_simp
                     try simp only [d1]
                     try simp only [d2]
                     try simp only [d3]
                     try with_reducible rfl
                   simp only [Act.put, List.setIfInBounds_toArray, List.set_cons_zero, List.set_cons_succ])
                | (refine mv_free _ (Or.inr ⟨by rfl, rfl⟩) (⟨xc, p0⟩) ?_
                   simp only [Act.put, List.setIfInBounds_toArray, List.set_cons_zero, List.set_cons_succ])
            iterate 1
              first
                | (refine mv_take ?_ (Or.inl ⟨by rfl, ?_⟩) (⟨xc, p0⟩) ?_
                   rotate_left 1
                   · intro u hu
                     (try dsimp only at hu)
                     go_simp
                     try with_reducible rfl
                   simp only [Act.put, List.setIfInBounds_toArray, List.set_cons_zero, List.set_cons_succ])
                | (refine mv_take _ (Or.inr ⟨by rfl, rfl⟩) (⟨xc, p0⟩) ?_
                   simp only [Act.put, List.setIfInBounds_toArray, List.set_cons_zero, List.set_cons_succ])
            iterate 4
              first
                | (refine mv_free ?_ (Or.inl ⟨by rfl, ?_⟩) (⟨xc, p0⟩) ?_
                   rotate_left 1
                   · intro u
                     go_simp
                     try simp only [d1]
                     try simp only [d2]
                     try simp only [d3]
                     try with_reducible rfl
                   simp only [Act.put, List.setIfInBounds_toArray, List.set_cons_zero, List.set_cons_succ])
                | (refine mv_free _ (Or.inr ⟨by rfl, rfl⟩) (⟨xc, p0⟩) ?_
                   simp only [Act.put, List.setIfInBounds_toArray, List.set_cons_zero, List.set_cons_succ])
            iterate 1
              first
                | (refine mv_take ?_ (Or.inl ⟨by rfl, ?_⟩) (⟨xc, p0⟩) ?_
                   rotate_left 1
                   · intro u hu
                     (try dsimp only at hu)
                     go_simp
                     try with_reducible rfl
                   simp only [Act.put, List.setIfInBounds_toArray, List.set_cons_zero, List.set_cons_succ])
                | (refine mv_take _ (Or.inr ⟨by rfl, rfl⟩) (⟨xc, p0⟩) ?_
                   simp only [Act.put, List.setIfInBounds_toArray, List.set_cons_zero, List.set_cons_succ])
            iterate 4
              first
                | (refine mv_free ?_ (Or.inl ⟨by rfl, ?_⟩) (⟨xc, p0⟩) ?_
                   rotate_left 1
                   · intro u
                     go_simp
                     try simp only [d1]
                     try simp only [d2]
                     try simp only [d3]
                     try with_reducible rfl
                   simp only [Act.put, List.setIfInBounds_toArray, List.set_cons_zero, List.set_cons_succ])
                | (refine mv_free _ (Or.inr ⟨by rfl, rfl⟩) (⟨xc, p0⟩) ?_
                   simp only [Act.put, List.setIfInBounds_toArray, List.set_cons_zero, List.set_cons_succ])
            have hX8 : Held (B + 1) (a6 (lsY tF aF j)) u2.drew := HX3.out.drew
            have hZ8 : Held B (a6 fun _ => 0) u2.drew := HZ3.out.drew
            have hb8 : Below B w u2.drew := hb3.out.drew
            have hz8 : B + 2 ≤ u2.drew.heap.size := hz3.out
            have xc8 : u2.drew.cell? ⟨B + 1, K, none⟩ = some (.int .i64 YK) := xc
            have xf8 : u2.drew.frozen? ⟨B + 1, K, none⟩ = false := xf
            have p08 : u2.drew.cell? ⟨b, off + k * 3, none⟩ = some (.int .i64 (T k)) := p0
            have p28 : u2.drew.cell? ⟨b, off + k * 3 + 2, none⟩ = some (.int .i64 (A k)) := p2
            have hbl : b < B + 1 ∨ B + 1 < b ∨ b = B + 1 := by omega
            generalize u2.drew = V3 at *
            have hX9 := Lib.hid (show Held (B + 1) (a6 (lsY tF aF (j + 1))) (V3.setCell ⟨B + 1, K, none⟩ (.int .i64 (YK + T k - S1))) by
              have h1 := hX8.set K (.int .i64 (YK + T k - S1)) (by simp [a6]; omega)
              rw [a6_set _ _ hK6] at h1
              rw [LY.out]
              exact h1)
            have hZ9 := Lib.hid (show Held B (a6 fun _ => 0) (V3.setCell ⟨B + 1, K, none⟩ (.int .i64 (YK + T k - S1))) from hZ8.only ((Only.refl (B + 1) V3).setCell (p := ⟨B + 1, K, none⟩) _) (show B ≠ B + 1 by omega))
            have hb9 := Lib.hid (hb8.setCell (p := ⟨B + 1, K, none⟩) (Nat.le_succ B) (.int .i64 (YK + T k - S1)))
            have hz9 := Lib.hid (show B + 2 ≤ (V3.setCell ⟨B + 1, K, none⟩ (.int .i64 (YK + T k - S1))).heap.size by simpa using hz8)
            clear hZ8 hX8 hb8 hz8
            refine mv_late (fun K hK => ?_)
            go_simp
            refine hK.out (fun _ => True) _ _ ?_
            clear hK K
            refine mv_done ?_
            obtain ⟨b9, o9, ea9, -, r0, r1, r2⟩ := (HP.out _ hb9.out).at hlt
            injection ea9 with ea9
            injection ea9 with e1 e2
            subst e1 e2
            generalize V3.setCell ⟨B + 1, K, none⟩ (.int .i64 (YK + T k - S1)) = V4 at *
            go_wp2
            go_roundw
            case rel => exact ⟨k + 1, by have := hkN.out; omega, by rw [hc.out, m1.out], by rw [hc.out, s1.out], by first | rfl | go_num, hb9, hZ9, by rw [hc.out]; exact hX9, hz9⟩
            case measure => simp [intOf]; omega
      · obtain rfl : k = n := by omega
        obtain rfl : k = N := by omega
        have j1 : ¬ (k : Int) < (k : Int) := by omega
        rw [EQ.out] at HX ⊢
        clear hjq
        rcases Nat.eq_zero_or_pos q with z | z
        · subst z
          have m0 : MO 0 = -1 := by rw [eMO.out]; rfl
          have s0 : SI 0 = 0 := by rw [eSI.out]; rfl
          have n0 : decide ((0 : Int) ≤ -1) = false := by decide
          have HXZ : Held (B + 1) (a6 (lsZ tF aF 0 e)) v := by
            rw [show lsZ tF aF 0 e = lsY tF aF 0 from by funext m; unfold lsZ; rw [if_neg (by omega)]; omega]
            exact HX.out
          rw [m0, s0]
          obtain ⟨Z, eZ⟩ : ∃ Z, lsZ tF aF 0 e = Z := ⟨_, rfl⟩
          rw [eZ] at HXZ
          have EZ := Lib.hid eZ
          clear eZ m0 s0
          have x0 := (HXZ.one 0 rfl).1
          obtain ⟨z0, f0⟩ := HZ.out.one 0 rfl
          have x1 := (HXZ.one 1 rfl).1
          obtain ⟨z1, f1⟩ := HZ.out.one 1 rfl
          have x2 := (HXZ.one 2 rfl).1
          obtain ⟨z2, f2⟩ := HZ.out.one 2 rfl
          have x3 := (HXZ.one 3 rfl).1
          obtain ⟨z3, f3⟩ := HZ.out.one 3 rfl
          have x4 := (HXZ.one 4 rfl).1
          obtain ⟨z4, f4⟩ := HZ.out.one 4 rfl
          have x5 := (HXZ.one 5 rfl).1
          obtain ⟨z5, f5⟩ := HZ.out.one 5 rfl
          clear HXZ
          go_wp2
          have hF := (((((HZ.out.set 0 (.int .i64 (Z 0)) (by simp [a6])).set 1 (.int .i64 (Z 1)) (by simp [a6])).set 2 (.int .i64 (Z 2)) (by simp [a6])).set 3 (.int .i64 (Z 3)) (by simp [a6])).set 4 (.int .i64 (Z 4)) (by simp [a6])).set 5 (.int .i64 (Z 5)) (by simp [a6])
          have hL := Lib.hid ((((((hb.out.setCell (p := ⟨B, 0, none⟩) (Nat.le_refl B) (.int .i64 (Z 0))).setCell (p := ⟨B, 1, none⟩) (Nat.le_refl B) (.int .i64 (Z 1))).setCell (p := ⟨B, 2, none⟩) (Nat.le_refl B) (.int .i64 (Z 2))).setCell (p := ⟨B, 3, none⟩) (Nat.le_refl B) (.int .i64 (Z 3))).setCell (p := ⟨B, 4, none⟩) (Nat.le_refl B) (.int .i64 (Z 4))).setCell (p := ⟨B, 5, none⟩) (Nat.le_refl B) (.int .i64 (Z 5)))
          generalize (((((v.setCell ⟨B, 0, none⟩ (.int .i64 (Z 0))).setCell ⟨B, 1, none⟩ (.int .i64 (Z 1))).setCell ⟨B, 2, none⟩ (.int .i64 (Z 2))).setCell ⟨B, 3, none⟩ (.int .i64 (Z 3))).setCell ⟨B, 4, none⟩ (.int .i64 (Z 4))).setCell ⟨B, 5, none⟩ (.int .i64 (Z 5)) = uF at *
          have d0 := (hF.one 0 rfl).1
          have d1 := (hF.one 1 rfl).1
          have d2 := (hF.one 2 rfl).1
          have d3 := (hF.one 3 rfl).1
          have d4 := (hF.one 4 rfl).1
          have d5 := (hF.one 5 rfl).1
          refine bodyPost_ret (v := agg6 Z) (by simp [results, Tryd.results48, go_sem, d0, d1, d2, d3, d4, d5, agg6]) rfl ⟨by rw [EZ.out], ?_⟩
          exact hL.out
        · have YB := Lib.hid (show ∀ m, 0 ≤ lsY tF aF q m ∧ lsY tF aF q m ≤ 1000000 from fun m => by
            have h1 := (lsY_ok CF.out.a CF.out.m (q - 1) (by omega)).1 m
            rw [show q - 1 + 1 = q by omega] at h1
            have h2 := CF.out.t (q - 1) (by omega)
            have h3 := CF.out.t 0 (by omega)
            omega)
          obtain ⟨K, hK⟩ : ∃ K : Nat, aF (q - 1) = (K : Int) := ⟨(aF (q - 1)).toNat, by have := CF.out.a (q - 1) (by omega); omega⟩
          have hK6 : K < 6 := by have := CF.out.a (q - 1) (by omega); omega
          have hS := CF.out.t (q - 1) (by omega)
          obtain ⟨S1, eS1⟩ : ∃ z, tF (q - 1) = z := ⟨_, rfl⟩
          rw [eS1] at hS
          have m0 : MO q = (K : Int) := by rw [eMO.out, if_neg (by omega)]; exact hK
          have s0 : SI q = S1 := by rw [eSI.out, if_neg (by omega)]; exact eS1
          have k0 : 0 ≤ (K : Int) := by omega
          have k6 : (K : Int) < 6 := by omega
          have n0 : decide ((0 : Int) ≤ (K : Int)) = true := decide_eq_true k0
          have yb := YB.out (aF (q - 1))
          rw [hK] at yb
          have JJ := Lib.hid z
          clear z YB
          rw [m0, s0]
          have ZZ := Lib.hid (show lsZ tF aF q e = fun m => if m = (K : Int) then lsY tF aF q (K : Int) + (max e S1 - S1) else lsY tF aF q m by
            funext m
            unfold lsZ
            rw [hK, eS1]
            by_cases g : m = (K : Int)
            · rw [if_pos ⟨JJ.out, g⟩, if_pos g, g]
            · rw [if_neg (fun h => g h.2), if_neg g]; omega)
          obtain ⟨YK, eYK⟩ : ∃ z, lsY tF aF q (K : Int) = z := ⟨_, rfl⟩
          have XK := Lib.hid (show (a6 (lsY tF aF q))[K]? = some (.int .i64 YK) by rw [a6_at _ hK6, eYK])
          rw [eYK] at yb ZZ
          clear m0 s0 hK eS1
          by_cases ze : S1 < e
          · have n2 : decide (S1 < e) = true := decide_eq_true ze
            have w1 : IntKind.i64.wrap (YK + e) = YK + e := by rw [IntKind.wrap_i64]; omega
            have w2 : IntKind.i64.wrap (YK + e - S1) = YK + e - S1 := by rw [IntKind.wrap_i64]; omega
            have hmx : YK + (max e S1 - S1) = YK + e - S1 := by omega
            obtain ⟨xc, xf⟩ := HX.out.one K XK.out
            have HXZ : Held (B + 1) (a6 (lsZ tF aF q e)) (v.setCell ⟨B + 1, K, none⟩ (.int .i64 (YK + e - S1))) := by
              have h1 := HX.out.set K (.int .i64 (YK + e - S1)) (by simp [a6]; omega)
              rw [a6_set _ _ hK6] at h1
              rw [ZZ.out, hmx]
              exact h1
            have HZ := Lib.hid (show Held B (a6 fun _ => 0) (v.setCell ⟨B + 1, K, none⟩ (.int .i64 (YK + e - S1))) from HZ.out.only ((Only.refl (B + 1) v).setCell (p := ⟨B + 1, K, none⟩) _) (show B ≠ B + 1 by omega))
            have hb := Lib.hid (hb.out.setCell (p := ⟨B + 1, K, none⟩) (Nat.le_succ B) (.int .i64 (YK + e - S1)))
            clear eYK hmx
            go_upto_region 16 with (fail)
            generalize v.setCell ⟨B + 1, K, none⟩ (.int .i64 (YK + e - S1)) = W9 at *
            obtain ⟨Z, eZ⟩ : ∃ Z, lsZ tF aF q e = Z := ⟨_, rfl⟩
            rw [eZ] at HXZ
            have EZ := Lib.hid eZ
            clear eZ
            have x0 := (HXZ.one 0 rfl).1
            obtain ⟨z0, f0⟩ := HZ.out.one 0 rfl
            have x1 := (HXZ.one 1 rfl).1
            obtain ⟨z1, f1⟩ := HZ.out.one 1 rfl
            have x2 := (HXZ.one 2 rfl).1
            obtain ⟨z2, f2⟩ := HZ.out.one 2 rfl
            have x3 := (HXZ.one 3 rfl).1
            obtain ⟨z3, f3⟩ := HZ.out.one 3 rfl
            have x4 := (HXZ.one 4 rfl).1
            obtain ⟨z4, f4⟩ := HZ.out.one 4 rfl
            have x5 := (HXZ.one 5 rfl).1
            obtain ⟨z5, f5⟩ := HZ.out.one 5 rfl
            clear HXZ
            go_wp2
            have hF := (((((HZ.out.set 0 (.int .i64 (Z 0)) (by simp [a6])).set 1 (.int .i64 (Z 1)) (by simp [a6])).set 2 (.int .i64 (Z 2)) (by simp [a6])).set 3 (.int .i64 (Z 3)) (by simp [a6])).set 4 (.int .i64 (Z 4)) (by simp [a6])).set 5 (.int .i64 (Z 5)) (by simp [a6])
            have hL := Lib.hid ((((((hb.out.setCell (p := ⟨B, 0, none⟩) (Nat.le_refl B) (.int .i64 (Z 0))).setCell (p := ⟨B, 1, none⟩) (Nat.le_refl B) (.int .i64 (Z 1))).setCell (p := ⟨B, 2, none⟩) (Nat.le_refl B) (.int .i64 (Z 2))).setCell (p := ⟨B, 3, none⟩) (Nat.le_refl B) (.int .i64 (Z 3))).setCell (p := ⟨B, 4, none⟩) (Nat.le_refl B) (.int .i64 (Z 4))).setCell (p := ⟨B, 5, none⟩) (Nat.le_refl B) (.int .i64 (Z 5)))
            generalize (((((W9.setCell ⟨B, 0, none⟩ (.int .i64 (Z 0))).setCell ⟨B, 1, none⟩ (.int .i64 (Z 1))).setCell ⟨B, 2, none⟩ (.int .i64 (Z 2))).setCell ⟨B, 3, none⟩ (.int .i64 (Z 3))).setCell ⟨B, 4, none⟩ (.int .i64 (Z 4))).setCell ⟨B, 5, none⟩ (.int .i64 (Z 5)) = uF at *
            have d0 := (hF.one 0 rfl).1
            have d1 := (hF.one 1 rfl).1
            have d2 := (hF.one 2 rfl).1
            have d3 := (hF.one 3 rfl).1
            have d4 := (hF.one 4 rfl).1
            have d5 := (hF.one 5 rfl).1
            refine bodyPost_ret (v := agg6 Z) (by simp [results, Tryd.results48, go_sem, d0, d1, d2, d3, d4, d5, agg6]) rfl ⟨by rw [EZ.out], ?_⟩
            exact hL.out
          · have n2 : decide (S1 < e) = false := decide_eq_false ze
            have HXZ : Held (B + 1) (a6 (lsZ tF aF q e)) v := by
              rw [ZZ.out, show YK + (max e S1 - S1) = YK by omega, ← eYK]
              rw [show (fun m => if m = (K : Int) then lsY tF aF q (K : Int) else lsY tF aF q m) = lsY tF aF q from by funext m; by_cases g : m = (K : Int); rw [if_pos g, g]; rw [if_neg g]]
              exact HX.out
            clear eYK
            obtain ⟨Z, eZ⟩ : ∃ Z, lsZ tF aF q e = Z := ⟨_, rfl⟩
            rw [eZ] at HXZ
            have EZ := Lib.hid eZ
            clear eZ
            have x0 := (HXZ.one 0 rfl).1
            obtain ⟨z0, f0⟩ := HZ.out.one 0 rfl
            have x1 := (HXZ.one 1 rfl).1
            obtain ⟨z1, f1⟩ := HZ.out.one 1 rfl
            have x2 := (HXZ.one 2 rfl).1
            obtain ⟨z2, f2⟩ := HZ.out.one 2 rfl
            have x3 := (HXZ.one 3 rfl).1
            obtain ⟨z3, f3⟩ := HZ.out.one 3 rfl
            have x4 := (HXZ.one 4 rfl).1
            obtain ⟨z4, f4⟩ := HZ.out.one 4 rfl
            have x5 := (HXZ.one 5 rfl).1
            obtain ⟨z5, f5⟩ := HZ.out.one 5 rfl
            clear HXZ
            go_wp2
            have hF := (((((HZ.out.set 0 (.int .i64 (Z 0)) (by simp [a6])).set 1 (.int .i64 (Z 1)) (by simp [a6])).set 2 (.int .i64 (Z 2)) (by simp [a6])).set 3 (.int .i64 (Z 3)) (by simp [a6])).set 4 (.int .i64 (Z 4)) (by simp [a6])).set 5 (.int .i64 (Z 5)) (by simp [a6])
            have hL := Lib.hid ((((((hb.out.setCell (p := ⟨B, 0, none⟩) (Nat.le_refl B) (.int .i64 (Z 0))).setCell (p := ⟨B, 1, none⟩) (Nat.le_refl B) (.int .i64 (Z 1))).setCell (p := ⟨B, 2, none⟩) (Nat.le_refl B) (.int .i64 (Z 2))).setCell (p := ⟨B, 3, none⟩) (Nat.le_refl B) (.int .i64 (Z 3))).setCell (p := ⟨B, 4, none⟩) (Nat.le_refl B) (.int .i64 (Z 4))).setCell (p := ⟨B, 5, none⟩) (Nat.le_refl B) (.int .i64 (Z 5)))
            generalize (((((v.setCell ⟨B, 0, none⟩ (.int .i64 (Z 0))).setCell ⟨B, 1, none⟩ (.int .i64 (Z 1))).setCell ⟨B, 2, none⟩ (.int .i64 (Z 2))).setCell ⟨B, 3, none⟩ (.int .i64 (Z 3))).setCell ⟨B, 4, none⟩ (.int .i64 (Z 4))).setCell ⟨B, 5, none⟩ (.int .i64 (Z 5)) = uF at *
            have d0 := (hF.one 0 rfl).1
            have d1 := (hF.one 1 rfl).1
            have d2 := (hF.one 2 rfl).1
            have d3 := (hF.one 3 rfl).1
            have d4 := (hF.one 4 rfl).1
            have d5 := (hF.one 5 rfl).1
            refine bodyPost_ret (v := agg6 Z) (by simp [results, Tryd.results48, go_sem, d0, d1, d2, d3, d4, d5, agg6]) rfl ⟨by rw [EZ.out], ?_⟩
            exact hL.out
end Go.Proofs.YtfejdbmamaggpaaDoor
