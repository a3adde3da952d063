/- Package tape: Read, All; the document's Same; walked. -/
import Derived.Test.YtpcbnoefgknihaaTapeG
namespace Go.Proofs.Ytpcbnoefgknihaa
open Go.ChangeShapes Go.WideShapes Go.ChangeAt Go.RowKit
set_option linter.unusedVariables false
set_option linter.unusedSimpArgs false
set_option maxRecDepth 100000 in
set_option maxHeartbeats 8000000 in
theorem tread_w (width : Int) (a : Option Addr) (n cap : Nat) (w : World) (h : ¬ (1 ≤ width ∧ width ≤ 16)) : Calls Try.prog 26 #[.int .i64 width, .slice a n cap] w fun e w' => e = .returned (.tuple #[.slice none 0 0, .slice none 0 0, .int .i64 2]) ∧ w = w' := by
  have W := fun u => tiswidth width u
  rw [decide_eq_false h] at W
  replace W := Lib.hid W
  go_enter Try.func26, Try.ntmps26
  go_wp2_with fail
  refine (W.out _).mono ?_
  rintro e w1 ⟨rfl, rfl⟩
  go_wp2
  go_ret3
  exact ⟨rfl, rfl⟩
set_option maxRecDepth 100000 in
set_option maxHeartbeats 8000000 in
theorem tall_w (width : Int) (a : Option Addr) (n cap : Nat) (w : World) (h : ¬ (1 ≤ width ∧ width ≤ 16)) : Calls Try.prog 27 #[.int .i64 width, .slice a n cap] w fun e w' => e = .returned (.tuple #[.slice none 0 0, .int .i64 0, .int .i64 2]) ∧ w = w' := by
  have W := fun u => tiswidth width u
  rw [decide_eq_false h] at W
  replace W := Lib.hid W
  go_enter Try.func27, Try.ntmps27
  go_wp2_with fail
  refine (W.out _).mono ?_
  rintro e w1 ⟨rfl, rfl⟩
  go_wp2
  go_ret3
  exact ⟨rfl, rfl⟩
theorem rdK_len (width : Nat) (L : List Int) : (rdK width L).2.2.length ≤ L.length := by
  by_cases q : (rdK width L).1 = 0
  · obtain ⟨-, -, -, k, h1, h2, h3⟩ := rdK_sub q
    rw [h3, List.length_drop]; omega
  · rw [(rdK_no q).1]; simp
theorem rdA_tri (width : Nat) : ∀ (n : Nat) (L : List Int), ((rdA width n L).1 = 0 → (rdA width n L).2.1 = 0) ∧ ((rdA width n L).1 ≠ 0 → (rdA width n L).2.2 = [])
  | 0, L => by simp [rdA]
  | n + 1, L => by
    rw [rdA]
    by_cases h : L = []
    · rw [if_pos h]; simp
    · rw [if_neg h]
      by_cases q : (rdK width L).1 = 0
      · rw [if_pos q]
        by_cases p : (rdA width n (rdK width L).2.2).1 = 0
        · rw [if_pos p]; simp
        · rw [if_neg p]; exact ⟨fun h => absurd h p, fun _ => rfl⟩
      · rw [if_neg q]; exact ⟨fun h => absurd h q, fun _ => rfl⟩
theorem rdK_mem (width : Nat) (L : List Int) : ∀ z ∈ (rdK width L).2.2, z ∈ L := fun z hz => by
  by_cases q : (rdK width L).1 = 0
  · obtain ⟨-, -, -, k, h1, h2, h3⟩ := rdK_sub q
    rw [h3] at hz; exact List.mem_of_mem_drop hz
  · rw [(rdK_no q).1] at hz; cases hz
set_option maxRecDepth 100000 in
set_option maxHeartbeats 8000000 in
theorem tread (width : Nat) (a : Option Addr) (cap : Nat) (L : List Int) (w : World) (hr : RowIs .u8 w a L) (hcap : L.length ≤ cap) (ha : 1 ≤ L.length → ∀ p, a = some p → p.block < w.heap.size) (hL : L.length ≤ 1000000) (hB : BYL L) (hw : 1 ≤ width ∧ width ≤ 16) : Calls Try.prog 26 #[.int .i64 (width : Int), .slice a L.length cap] w fun e w' => Below w.heap.size w w' ∧ ∃ x y G, e = .returned (.tuple #[x, y, .int .i64 (rdK width L).1]) ∧ Gr w.heap.size x G w' ∧ grL G = (rdK width L).2.1 ∧ Og 5 w.heap.size y (nvals .u8 (rdK width L).2.2) w' := by
  have W := fun u => tiswidth (width : Int) u
  rw [decide_eq_true (show 1 ≤ (width : Int) ∧ (width : Int) ≤ 16 by omega)] at W
  replace W := Lib.hid W
  have T := Lib.hid (tblk w.heap.size width a cap L w hr hcap ha (Nat.le_refl _) hL hB hw)
  have KL := Lib.hid (Nat.le_trans (rdK_len width L) hL)
  generalize rdK width L = K at *
  obtain ⟨e0, Z, R⟩ := K
  have T := T.out
  have KL : R.length ≤ 1000000 := KL.out
  replace T := Lib.hid T
  clear hr hcap ha hL hB
  generalize L.length = n at *
  go_enter Try.func26, Try.ntmps26
  go_wp2_with fail
  refine (W.out _).mono ?_
  rintro e w1 ⟨rfl, rfl⟩
  go_wp2_with fail
  refine T.out.mono ?_
  rintro e w2 ⟨hb2, x, a2, c2, G, rfl, hG, hZ, hr2, -, -⟩
  have CL := Lib.hid (tclone a2 c2 R w2 hr2 KL)
  have hG := Lib.hid hG
  have hb2 := Lib.hid hb2
  clear T W hr2
  go_wp2_with fail
  refine CL.out.mono ?_
  rintro e w3 ⟨y, rfl, hO, hb3, -⟩
  have hb := Lib.hid (show Below w.heap.size w w3 from hb2.out.trans (hb3.mono hb2.out.size))
  have hG3 := Lib.hid (hG.out.bel hb3)
  have hO3 := Lib.hid (hO.mono (B' := w.heap.size) hb2.out.size)
  clear hG hb2 hb3 hO CL
  go_wp2
  go_ret3
  exact ⟨hb.out, _, _, G, rfl, hG3.out, hZ, hO3.out⟩
set_option maxRecDepth 100000 in
set_option maxHeartbeats 8000000 in
theorem tall (width : Nat) (a : Option Addr) (cap : Nat) (L : List Int) (w : World) (hr : RowIs .u8 w a L) (hcap : L.length ≤ cap) (ha : 1 ≤ L.length → ∀ p, a = some p → p.block < w.heap.size) (hL : L.length ≤ 1000000) (hB : BYL L) (hw : 1 ≤ width ∧ width ≤ 16) : Calls Try.prog 27 #[.int .i64 (width : Int), .slice a L.length cap] w fun e w' => Below w.heap.size w w' ∧ ∃ x G, e = .returned (.tuple #[x, .int .i64 ((rdA width L.length L).2.1 : Nat), .int .i64 (rdA width L.length L).1]) ∧ Gr w.heap.size x G w' ∧ grL G = (rdA width L.length L).2.2 := by
  have W := fun u => tiswidth (width : Int) u
  rw [decide_eq_true (show 1 ≤ (width : Int) ∧ (width : Int) ≤ 16 by omega)] at W
  replace W := Lib.hid W
  have HW := Lib.hid hw
  obtain ⟨B, eB⟩ : ∃ B, w.heap.size = B := ⟨_, rfl⟩
  have EB := Lib.hid eB
  rw [eB] at ha
  obtain ⟨F, eF⟩ : ∃ F, rdA width L.length L = F := ⟨_, rfl⟩
  have EF := Lib.hid eF
  rw [eF]
  clear eF eB
  have HR := Lib.hid hr
  have HA := Lib.hid ha
  have HC := Lib.hid hcap
  have HB := Lib.hid hB
  clear hr hcap ha hB hw
  obtain ⟨n, en⟩ : ∃ n, L.length = n := ⟨_, rfl⟩
  have EN := Lib.hid en
  rw [en] at hL ⊢
  clear en
  rw [show w.heap.size = B from EB.out]
  go_enter Try.func27, Try.ntmps27
  go_wp2_with fail
  refine (W.out _).mono ?_
  rintro e w1 ⟨rfl, rfl⟩
  clear W
  go_wp2_with fail
  go_loopw [4, 7] (fun y r v => ∃ (M : List Int) (ar : Option Addr) (cr : Nat) (x' : Value) (G : List (Nat × List Int)) (mm : Nat), y = x' ∧ r = .slice ar mm cr ∧ mm ≤ n ∧ Hid (M.length = mm) ∧ Hid (RowIs .u8 v ar M) ∧ Hid (mm ≤ cr) ∧ Hid (1 ≤ mm → ∀ p, ar = some p → p.block < B) ∧ Hid (BYL M) ∧ Hid (Gr B x' G v) ∧ Hid (G.length + 50 * mm ≤ 50000000) ∧ Hid (Below B w v) ∧ Hid (F = if (rdA width mm M).1 = 0 then (0, 0, grL G ++ (rdA width mm M).2.2) else ((rdA width mm M).1, (n - mm) + (rdA width mm M).2.1, []))) (fun _ r _ => match r with | .slice _ k _ => k | _ => 0)
  case atStart => exact ⟨L, a, cap, _, [], n, rfl, rfl, Nat.le_refl _, EN, HR, Lib.hid (by have := HC.out; have := EN.out; omega), Lib.hid (fun q => HA.out (by have := EN.out; omega)), HB, Lib.hid (Gr.nil _ _), Lib.hid (by simp; omega), Lib.hid (Below.refl _ _), Lib.hid (by
    have t := rdA_tri width L.length L
    rw [← EN.out, Nat.sub_self]
    rw [EF.out] at t ⊢
    obtain ⟨f1, f2, f3⟩ := F
    by_cases q : f1 = 0
    · have e : f2 = 0 := t.1 q
      subst q e
      rfl
    · have e : f3 = [] := t.2 q
      subst e
      rw [if_neg q]
      simp)⟩
  case round =>
    obtain ⟨M, ar, cr, x', G, mm, rfl, rfl, hmn, hM, hRw, hcr, hbl, hBM, hG, hGl, hb, hF⟩ := hrel
    generalize wr = v at *
    by_cases hz : mm = 0
    · subst hz
      have e0 : ¬ (0 : Int) < ((0 : Nat) : Int) := by omega
      have hf := Lib.hid (show F = (0, 0, grL G) by rw [hF.out]; simp [rdA])
      clear hF
      go_wp2
      go_ret3
      rw [hf.out]
      exact ⟨hb.out, _, rfl, G, hG.out, rfl⟩
    · have h1 : (0 : Int) < (mm : Int) := by omega
      have T := tblk B width ar cr M v hRw.out (by rw [hM.out]; exact hcr.out) (by rw [hM.out]; exact hbl.out) (by have := hb.out.size; have := EB.out; omega) (by rw [hM.out]; omega) hBM.out HW.out
      rw [hM.out] at T
      have hne : M ≠ [] := fun e => by have := hM.out; rw [e] at this; simp at this; omega
      have RO := Lib.hid (fun q => rdA_ok (width := width) hne q)
      have RN := Lib.hid (fun q => rdA_no (width := width) hne q)
      have KS := Lib.hid (fun q => rdK_sub (width := width) (L := M) q)
      have KM := Lib.hid (rdK_mem width M)
      rw [hM.out] at RO RN
      obtain ⟨K, eK⟩ : ∃ K, rdK width M = K := ⟨_, rfl⟩
      rw [eK] at T RO RN KS KM
      clear eK
      obtain ⟨e1, Z, R⟩ := K
      replace T := Lib.hid T
      replace RO := Lib.hid RO.out
      replace RN := Lib.hid RN.out
      replace KS := Lib.hid KS.out
      replace KM := Lib.hid (show ∀ z ∈ R, z ∈ M from KM.out)
      clear hRw hcr hbl hne
      go_wp2_with fail
      refine T.out.mono ?_
      rintro e v2 ⟨hb2, x2, a2, c2, G2, rfl, hG2, hZ2, hr2, hc2, hl2⟩
      have hZ2 : grL G2 = Z := hZ2
      have hr2 : RowIs .u8 v2 a2 R := hr2
      have hc2 : R.length ≤ c2 := hc2
      have hl2 : 1 ≤ R.length → ∀ p, a2 = some p → p.block < B := hl2
      have hb8 := Lib.hid (show Below B w v2 from hb.out.trans (hb2.mono (by have := hb.out.size; have := EB.out; omega)))
      have hG8 := Lib.hid (hG.out.bel hb2)
      have hBv := Lib.hid (show B ≤ v.heap.size by have := hb.out.size; have := EB.out; omega)
      have hBv2 := Lib.hid (show B ≤ v2.heap.size by have := hb2.size; have := hBv.out; omega)
      clear T hG hb hb2
      by_cases q : e1 = 0
      · subst q
        have RO := RO.out rfl
        obtain ⟨k1, k2, -, k, k3, k4, k5⟩ : 1 ≤ Z.length ∧ Z.length ≤ 50 ∧ (∀ R' ∈ Z, R'.length = width) ∧ ∃ k, 4 + width ≤ k ∧ k ≤ M.length ∧ R = M.drop k := KS.out rfl
        have GL2 := Lib.hid (show G2.length ≤ 50 by rw [← grL_len, hZ2]; exact k2)
        have RLm := Lib.hid (show R.length + 4 ≤ mm by rw [k5, List.length_drop]; have := hM.out; omega)
        have SR := Lib.hid (hG2.og.src (t := 35) Try.underlying35 (grV_one _))
        have hO8 := Lib.hid hG8.out.og
        have hG2 := Lib.hid (show ∀ t ∈ G2, Cl t.1 t.2 v2 ∧ B ≤ t.1 from fun t ht => ⟨(hG2.rw t ht).1, Nat.le_trans hBv.out (hG2.rw t ht).2⟩)
        have hF2 := Lib.hid (show F = if (rdA width R.length R).1 = 0 then (0, 0, grL (G ++ G2) ++ (rdA width R.length R).2.2) else ((rdA width R.length R).1, (n - R.length) + (rdA width R.length R).2.1, []) by
          have RO : rdA width mm M = if (rdA width R.length R).1 = 0 then (0, 0, Z ++ (rdA width R.length R).2.2) else ((rdA width R.length R).1, (mm - R.length) + (rdA width R.length R).2.1, []) := RO
          rw [hF.out, RO, grL_app, hZ2]
          by_cases z : (rdA width R.length R).1 = 0
          · rw [if_pos z, if_pos z]; simp
          · rw [if_neg z, if_neg z]
            rw [if_neg z]
            have := RLm.out
            refine Prod.ext rfl (Prod.ext ?_ rfl)
            show n - mm + (mm - R.length + (rdA width R.length R).2.1) = n - R.length + (rdA width R.length R).2.1
            omega)
        have hr2 := Lib.hid hr2
        have hc2 := Lib.hid hc2
        have hl2 := Lib.hid hl2
        have BR := Lib.hid (show BYL R from fun z hz => hBM.out z (KM.out z hz))
        clear RO RN KS KM hF k1 k2 k3 k4 k5 hZ2
        go_upto_region 9 with (first | (at_builtin; refine wpList_append_og _ rfl (.tmp 33) (.tmp 34) 35 35 rfl 79 (.slice none 0 0) 24 Try.underlying35 (by kernel_rfl) rfl B _ _ rfl hO8.out hBv2.out _ _ _ rfl SR.out (by rw [grV_len, grV_len]; have := GL2.out; have := hGl.out; unfold maxLen; omega) (by rw [grV_len, grV_len]; have := GL2.out; have := hGl.out; omega) ?_; intro x9 v9 hO9 hK9 hN9))
        have g1 := Lib.hid (show Gr B x9 (G ++ G2) v9 from hG8.out.app hG2.out hO9 hK9)
        have g2 := Lib.hid (show RowIs .u8 v9 a2 R by
          rcases hr2.out with z | ⟨g, o, rfl, hg, hc⟩
          · exact .inl z
          · by_cases z : 1 ≤ R.length
            · have zz : g < B := hl2.out z _ rfl
              exact .inr ⟨g, o, rfl, Nat.lt_of_lt_of_le hg hK9.size, fun i hi => (World.cell?_of_block (a := ⟨g, o + i, none⟩) (hK9.block g hg (fun e => by have := (hO8.out.lt e).1; omega))).trans (hc i hi)⟩
            · exact .inl (List.eq_nil_of_length_eq_zero (by omega)))
        have g3 := Lib.hid (show Below B w v9 from ⟨hK9.os.trans hb8.out.os, hK9.tape.trans hb8.out.tape, hK9.output.trans hb8.out.output, Nat.le_trans hb8.out.size hK9.size, fun i hi => (hK9.block i (by have := hBv2.out; omega) (fun e => by have := (hO8.out.lt e).1; omega)).trans (hb8.out.block i hi)⟩)
        have g4 := Lib.hid (show (G ++ G2).length + 50 * R.length ≤ 50000000 by rw [List.length_append]; have := GL2.out; have := RLm.out; have := hGl.out; omega)
        clear hO9 hK9 hN9 SR hO8 hG8 hG2 hr2 hb8 hBv hBv2
        generalize e3 : R.length = rl at *
        replace e3 := Lib.hid e3
        go_wp2
        go_roundw
        case rel => exact ⟨R, a2, c2, x9, G ++ G2, rl, rfl, rfl, by have := RLm.out; omega, e3, g2, hc2, hl2, BR, g1, g4, g3, hF2⟩
        case measure => have := RLm.out; simp; omega
      · have q1 : (e1 == 0) = false := beq_eq_false_iff_ne.2 q
        have q2 : (e1 != 0) = true := by simp [q]
        have hf := Lib.hid (show F = (e1, n - mm, []) by rw [hF.out, RN.out q]; rw [if_neg q]; rfl)
        have s1 : IntKind.i64.wrap ((n : Int) - (mm : Int)) = ((n - mm : Nat) : Int) := by rw [IntKind.wrap_i64]; omega
        clear hF RO RN KS KM hG2 hr2 hc2 hl2
        go_wp2
        go_ret3
        rw [hf.out]
        exact ⟨hb8.out, _, [], rfl, Gr.nil _ _, rfl⟩
end Go.Proofs.Ytpcbnoefgknihaa
