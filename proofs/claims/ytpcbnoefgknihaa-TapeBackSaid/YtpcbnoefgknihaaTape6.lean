/- A block of the tape in the document; walked. -/
import Derived.Test.YtpcbnoefgknihaaTape5
namespace Go.Proofs.Ytpcbnoefgknihaa
open Go.ChangeShapes Go.WideShapes Go.ChangeAt Go.RowKit
set_option linter.unusedVariables false
set_option linter.unusedSimpArgs false
theorem getD_mem {l : List Int} {m : Nat} (h : m < l.length) : l.getD m 0 ∈ l := by simp [List.getD, h]
theorem rwB_zero {R : List Int} {width m : Nat} (hm : m < width) (h1 : -9223372036854775808 ≤ R.getD m 0) (h2 : R.getD m 0 ≤ 9223372036854775807) : rwB (List.replicate width 0) R (m + 1) = rwB (List.replicate width 0) R m ++ vn (fo (R.getD m 0)) := by
  show _ ++ vn (fo (IntKind.i64.wrap (R.getD m 0 - (List.replicate width 0).getD m 0))) = _
  rw [show (List.replicate width (0 : Int)).getD m 0 = 0 from by simp [List.getD, hm], Int.sub_zero, show IntKind.i64.wrap (R.getD m 0) = R.getD m 0 from by rw [IntKind.wrap_i64]; omega]
set_option maxRecDepth 100000 in
set_option maxHeartbeats 8000000 in
theorem rblock (width : Nat) (a : Option Addr) (A : Nat → Option Addr) (C : Nat → Nat) (Z : List (List Int)) (cap : Nat) (w : World) (h : GridIs .i64 w a A C Z) (hw1 : 1 ≤ width) (hw : width ≤ 16) (hn : Z.length ≤ 50) (hf : fitB (width : Int) Z = true) (hv : ∀ i, i < Z.length → ∀ n ∈ Z.getD i [], -9223372036854775808 ≤ n ∧ n ≤ 9223372036854775807) :
    Calls Try.prog 25 #[.slice a Z.length cap] w fun e w' => ∃ x', e = .returned x' ∧ Og 5 w.heap.size x' (nvals .u8 (bkB width Z)) w' ∧ Below w.heap.size w w' := by
  have RN := Lib.hid (fun n u g1 g2 => rnumber n u g1 g2)
  obtain ⟨B, eB⟩ : ∃ B, w.heap.size = B := ⟨_, rfl⟩
  have HX := Lib.hid (fun u y V (k : Og 5 B y V u) g (e : ogB y = some g) => (k.lt e).1)
  have BL := Lib.hid (fun i (hi : i ≤ Z.length) => show (blB width Z i).length ≤ 8000 from by have := blB_len (width := width) (m := 16) (fun i hi => by have := fit_at hf hi; omega) i hi; omega)
  have HF := Lib.hid hf
  have HG := Lib.hid h
  have HW := Lib.hid hw
  have HW1 := Lib.hid hw1
  have HV := Lib.hid hv
  have GR := Lib.hid (fun u (k : Below B w u) => show GridIs .i64 u a A C Z from h.below (by rw [eB]; exact k))
  obtain ⟨n, en⟩ : ∃ n, Z.length = n := ⟨_, rfl⟩
  have HN := Lib.hid (show n ≤ 50 by omega)
  have hn' : (n : Int) ≤ 50 := by omega
  have EN := Lib.hid en
  rw [en, eB]
  have EB := Lib.hid eB
  obtain ⟨z, ez⟩ : ∃ z, z = (n : Int) % 256 := ⟨_, rfl⟩
  have j1 : IntKind.u8.wrap (n : Int) = z := by rw [IntKind.wrap_u8, ez]
  have ehd := Lib.hid (show hdB Z = [90, z] by unfold hdB; rw [en, ez])
  have hA := Lib.hid ((Below.refl w.heap.size w).alloc (Nat.le_refl _) (.cells #[.int .u8 90, .int .u8 z] 5))
  have hO := Lib.hid (show Og 5 B (.slice (some ⟨w.heap.size, 0, none⟩) 2 2) (nvals .u8 (hdB Z)) (w.alloc (.cells #[.int .u8 90, .int .u8 z] 5)) by rw [ehd.out, ← eB]; exact Og.new 5 w [.int .u8 90, .int .u8 z])
  have hK := Lib.hid (show Below B w (w.alloc (.cells #[.int .u8 90, .int .u8 z] 5)) by rw [← eB]; exact hA.out)
  clear h hw hw1 hn hf en ez eB hv hA
  go_enter Try.func25, Try.ntmps25
  go_wp2_with fail
  go_loopw [3, 4] (fun y i v => ∃ (k : Nat) (x' : Value), k ≤ n ∧ y = x' ∧ i = .int .i64 (k : Int) ∧ Hid (Og 5 B x' (nvals .u8 (hdB Z ++ blB width Z k)) v) ∧ Hid (Below B w v)) (fun _ i _ => n - (intOf i).toNat)
  case atStart => exact ⟨0, _, by omega, rfl, rfl, Lib.hid (by simpa [blB] using hO.out), hK⟩
  case round =>
    clear hO hK j1
    obtain ⟨k, x', hk, rfl, rfl, hO, hK⟩ := hrel
    generalize wr = v at *
    by_cases hlt : k < n
    · have h1 : (k : Int) < (n : Int) := by omega
      have h0 : 0 ≤ (k : Int) := by omega
      have hRL := fit_at HF.out (show k < Z.length by rw [EN.out]; exact hlt)
      have PL := pvR_len HF.out (show k ≤ Z.length by rw [EN.out]; exact hk)
      have BS := Lib.hid (show blB width Z (k + 1) = blB width Z k ++ rwB (pvR width Z k) (Z.getD k []) (Z.getD k []).length from rfl)
      have BL1 := Lib.hid (BL.out k (by rw [EN.out]; exact hk))
      rw [hRL] at BS
      generalize blB width Z k = BK at *
      have hwi : (width : Int) ≤ 16 := by have := HW.out; omega
      replace BS := Lib.hid BS
      have RL := Lib.hid hRL
      clear hRL
      go_wp2_with fail
      go_loopw [3, 5] (fun y j v' => ∃ (m : Nat) (x'' : Value), m ≤ width ∧ y = x'' ∧ j = .int .i64 (m : Int) ∧ Hid (Og 5 B x'' (nvals .u8 (hdB Z ++ BK ++ rwB (pvR width Z k) (Z.getD k []) m)) v') ∧ Hid (Below B w v')) (fun _ j _ => width - (intOf j).toNat)
      case atStart => exact ⟨0, _, by omega, rfl, rfl, Lib.hid (by simpa [rwB] using hO.out), hK⟩
      case round =>
        clear hO hK
        obtain ⟨m, x'', hm, rfl, rfl, hO, hK⟩ := hrel
        generalize wr = v1 at *
        have G1 := GR.out v1 hK.out
        obtain ⟨b, off, ea, -, hc⟩ := G1.at (show k < Z.length by rw [EN.out]; exact hlt)
        rw [RL.out] at hc
        by_cases hltm : m < width
        · have m1 : (m : Int) < (width : Int) := by omega
          have m0 : 0 ≤ (m : Int) := by omega
          obtain ⟨b1, o1, e1, -, c1⟩ := (G1.rows k (by rw [EN.out]; exact hlt)).at (show m < (Z.getD k []).length by rw [RL.out]; exact hltm)
          have rb := HV.out k (by rw [EN.out]; exact hlt) ((Z.getD k []).getD m 0) (getD_mem (by rw [RL.out]; exact hltm))
          rw [e1] at hc
          have LNB := Lib.hid (show (hdB Z ++ BK ++ rwB (pvR width Z k) (Z.getD k []) m).length ≤ 9000 by have := rwB_len (pvR width Z k) (Z.getD k []) m; have := BL1.out; have := HW.out; simp only [List.length_append, hd_len]; omega)
          by_cases k0 : k = 0
          · have RS := show rwB (pvR width Z 0) (Z.getD 0 []) (m + 1) = rwB (pvR width Z 0) (Z.getD 0 []) m ++ vn (fo ((Z.getD 0 []).getD m 0)) from rwB_zero hltm (by rw [← k0]; exact rb.1) (by rw [← k0]; exact rb.2)
            rw [← k0] at RS
            replace RS := Lib.hid RS
            generalize (Z.getD k []).getD m 0 = d at *
            generalize rwB (pvR width Z k) (Z.getD k []) m = RB at *
            have T1 := Lib.hid (RN.out d v1 rb.1 rb.2)
            have kk : ¬ (0 : Int) < (k : Int) := by omega
            replace k0 := Lib.hid k0
            clear rb G1
            subst ea
            go_wp2_with fail
            refine T1.out.mono ?_
            rintro e w6 ⟨x3, rfl, hO3, hb6⟩
            have HBv := Lib.hid (show B ≤ v1.heap.size from by have := EB.out; have := hK.out.size; omega)
            have hz3 := Lib.hid (show B ≤ w6.heap.size from Nat.le_trans HBv.out hb6.size)
            have hO4 := Lib.hid (hO.out.bel hb6)
            have SR := Lib.hid (hO3.src (t := 22) Try.underlying22 (nvals_one _ _))
            have LEN := Lib.hid (show (nvals .u8 (hdB Z ++ BK ++ RB)).length + (nvals .u8 (vn (fo d))).length ≤ 1000000 by rw [nvals_len, nvals_len]; have := (vn_len (fo d)).1; have := LNB.out; omega)
            have hb7 := Lib.hid (hK.out.trans (hb6.mono HBv.out))
            clear hO3 hb6 T1 hO hK
            go_upto_region 7 with (first | (at_builtin; refine wpList_append_og _ rfl (.tmp 46) (.tmp 48) 22 22 rfl 5 (.int .u8 0) 1 Try.underlying22 (by kernel_rfl) rfl B _ _ rfl hO4.out hz3.out _ _ _ rfl SR.out (by have := LEN.out; unfold maxLen; omega) (by have := LEN.out; omega) ?_; intro x7 w7 hO7 hK7 hN7))
            have hO8 := Lib.hid (show Og 5 B x7 (nvals .u8 (hdB Z ++ BK ++ rwB (pvR width Z (k)) (Z.getD (k) []) (m + 1))) w7 by rw [RS.out, ← List.append_assoc, nvals_app]; exact hO7)
            have hb8 := Lib.hid (hb7.out.trans (hK7.below hO4.out hz3.out))
            clear hO7 hK7 hN7 hO4 hz3 SR hb7
            go_wp2
            go_roundw
            case rel => exact ⟨m + 1, x7, by omega, rfl, by go_num, hO8, hb8⟩
            case measure => simp [intOf]; omega
          · obtain ⟨k', ek⟩ : ∃ k', k = k' + 1 := ⟨k - 1, by omega⟩
            have hcp := (G1.cells.resolve_left (fun q => by rw [q] at EN; have := EN.out; simp at this; omega))
            obtain ⟨b3, o3, ea3, -, hc3⟩ := hcp
            have hp := hc3 k' (by rw [EN.out]; omega)
            rw [ea] at ea3; injection ea3 with ea3; injection ea3 with q1 q2; subst q1 q2
            have PLr := fit_at HF.out (show k' < Z.length by rw [EN.out]; omega)
            rw [PLr] at hp
            obtain ⟨b2, o2, e2, -, c2⟩ := (G1.rows k' (by rw [EN.out]; omega)).at (show m < (Z.getD k' []).length by rw [PLr]; exact hltm)
            rw [e2] at hp
            have RS := show rwB (pvR width Z k) (Z.getD k []) (m + 1) = rwB (pvR width Z k) (Z.getD k []) m ++ vn (fo (IntKind.i64.wrap ((Z.getD k []).getD m 0 - (pvR width Z k).getD m 0))) from rfl
            rw [show (pvR width Z k).getD m 0 = (Z.getD k' []).getD m 0 from by rw [ek]; rfl] at RS
            generalize (Z.getD k []).getD m 0 = rv at *
            generalize (Z.getD k' []).getD m 0 = pv at *
            generalize rwB (pvR width Z k) (Z.getD k []) m = RB at *
            have dw := i64_within (rv - pv)
            obtain ⟨d, ed⟩ : ∃ d, IntKind.i64.wrap (rv - pv) = d := ⟨_, rfl⟩
            rw [ed] at dw RS
            replace RS := Lib.hid RS
            have T1 := Lib.hid (RN.out d v1 dw.1 dw.2)
            have s1 : IntKind.i64.wrap ((k : Int) - 1) = (k' : Int) := by rw [IntKind.wrap_i64]; omega
            have s2 : (k' : Int) < (n : Int) := by omega
            have s3 : (0 : Int) ≤ (k' : Int) := by omega
            have s4 : (0 : Int) < (k : Int) := by omega
            clear dw rb G1 hc3 PLr k0 ek
            subst ea
            go_wp2_with fail
            refine T1.out.mono ?_
            rintro e w6 ⟨x3, rfl, hO3, hb6⟩
            have HBv := Lib.hid (show B ≤ v1.heap.size from by have := EB.out; have := hK.out.size; omega)
            have hz3 := Lib.hid (show B ≤ w6.heap.size from Nat.le_trans HBv.out hb6.size)
            have hO4 := Lib.hid (hO.out.bel hb6)
            have SR := Lib.hid (hO3.src (t := 22) Try.underlying22 (nvals_one _ _))
            have LEN := Lib.hid (show (nvals .u8 (hdB Z ++ BK ++ RB)).length + (nvals .u8 (vn (fo d))).length ≤ 1000000 by rw [nvals_len, nvals_len]; have := (vn_len (fo d)).1; have := LNB.out; omega)
            have hb7 := Lib.hid (hK.out.trans (hb6.mono HBv.out))
            clear hO3 hb6 T1 hO hK
            go_upto_region 7 with (first | (at_builtin; refine wpList_append_og _ rfl (.tmp 46) (.tmp 48) 22 22 rfl 5 (.int .u8 0) 1 Try.underlying22 (by kernel_rfl) rfl B _ _ rfl hO4.out hz3.out _ _ _ rfl SR.out (by have := LEN.out; unfold maxLen; omega) (by have := LEN.out; omega) ?_; intro x7 w7 hO7 hK7 hN7))
            have hO8 := Lib.hid (show Og 5 B x7 (nvals .u8 (hdB Z ++ BK ++ rwB (pvR width Z (k)) (Z.getD (k) []) (m + 1))) w7 by rw [RS.out, ← List.append_assoc, nvals_app]; exact hO7)
            have hb8 := Lib.hid (hb7.out.trans (hK7.below hO4.out hz3.out))
            clear hO7 hK7 hN7 hO4 hz3 SR hb7
            go_wp2
            go_roundw
            case rel => exact ⟨m + 1, x7, by omega, rfl, by go_num, hO8, hb8⟩
            case measure => simp [intOf]; omega
        · obtain rfl : m = width := by omega
          have mge : ¬ (m : Int) < (m : Int) := by omega
          have hO8 := Lib.hid (show Og 5 B _ (nvals .u8 (hdB Z ++ blB m Z (k + 1))) v1 by rw [BS.out, ← List.append_assoc]; exact hO.out)
          clear hO hltm G1
          subst ea
          go_wp2
          go_roundw
          case rel => exact ⟨k + 1, _, by omega, rfl, by go_num, hO8, hK⟩
          case measure => simp [intOf]; omega
    · obtain rfl : k = n := by omega
      clear hlt hk
      rw [show hdB Z ++ blB width Z k = bdB width Z by unfold bdB; rw [EN.out]] at hO
      have DL := Lib.hid (show (bdB width Z).length ≤ 8002 ∧ 2 ≤ (bdB width Z).length by have := BL.out k (by rw [EN.out]; omega); unfold bdB; rw [EN.out, List.length_append, hd_len]; omega)
      obtain ⟨a9, c9, e9, hc9, hr9, -, -⟩ := hO.out.rowIs
      have TS := Lib.hid (rsum a9 c9 (bdB width Z) v hr9 (by have := DL.out; unfold maxLen; omega) (bdB_byl width Z).by8)
      have SBL := Lib.hid (show bkB width Z = bdB width Z ++ [((crI (bdB width Z) / 256 : Nat) : Int), ((crI (bdB width Z) % 256 : Nat) : Int)] from rfl)
      have SLT := crI_lt (bdB width Z)
      generalize hS : crI (bdB width Z) = S at *
      obtain ⟨y0, ey0⟩ : ∃ y : Nat, y = S / 256 := ⟨_, rfl⟩
      obtain ⟨y1, ey1⟩ : ∃ y : Nat, y = S % 256 := ⟨_, rfl⟩
      have j1 : (S : Int).tdiv 256 = (y0 : Int) := by rw [Int.tdiv_eq_ediv_of_nonneg (by omega)]; omega
      have j1a : IntKind.i64.wrap (y0 : Int) = (y0 : Int) := by rw [IntKind.wrap_i64]; omega
      have j2 : IntKind.u8.wrap (y0 : Int) = (y0 : Int) := by rw [IntKind.wrap_u8]; omega
      have j3 : (S : Int).tmod 256 = (y1 : Int) := by rw [Int.tmod_eq_emod_of_nonneg (by omega)]; omega
      have j4 : IntKind.u8.wrap (y1 : Int) = (y1 : Int) := by rw [IntKind.wrap_u8]; omega
      rw [← ey0, ← ey1] at SBL
      have LEN := Lib.hid (show (nvals .u8 (bdB width Z)).length + 2 ≤ 1000000 by rw [nvals_len]; have := DL.out; omega)
      have HBv := Lib.hid (show B ≤ v.heap.size from by have := EB.out; have := hK.out.size; omega)
      have hA := Lib.hid ((Below.refl v.heap.size v).alloc (Nat.le_refl _) (.cells #[.int .u8 (y0 : Int), .int .u8 (y1 : Int)] 5))
      have hO3 := Lib.hid (hO.out.bel hA.out)
      have hz3 := Lib.hid (show B ≤ (v.alloc (.cells #[.int .u8 (y0 : Int), .int .u8 (y1 : Int)] 5)).heap.size from by have := HBv.out; simp; omega)
      have SR := Lib.hid (src_new 22 5 5 Try.underlying22 v [.int .u8 (y0 : Int), .int .u8 (y1 : Int)] (fun u hu => by simp at hu; rcases hu with rfl | rfl <;> rfl))
      clear SLT hS ey0 ey1 hr9 hc9
      replace SBL := Lib.hid SBL
      subst e9
      go_wp2_with fail
      refine TS.out.mono ?_
      rintro e w9 ⟨rfl, rfl⟩
      clear TS
      go_wp2_with (first | (at_builtin; refine wpList_append_og _ rfl (.tmp 52) (.tmp 59) 22 22 rfl 5 (.int .u8 0) 1 Try.underlying22 (by kernel_rfl) rfl B _ _ rfl hO3.out hz3.out _ 2 _ rfl SR.out (by have := LEN.out; unfold maxLen; omega) (by have := LEN.out; omega) ?_; intro x7 w7 hO5 hK5 hN5))
      have hK8 := Lib.hid (hK.out.trans ((hA.out.mono HBv.out).trans (hK5.below hO3.out hz3.out)))
      have hO8 := Lib.hid (show Og 5 B x7 (nvals .u8 (bkB width Z)) w7 by rw [SBL.out, nvals_app]; exact hO5)
      clear hO5 hK5 hN5 hA hO3 hz3 SR hO hK
      try go_wp2
      go_ret
      exact ⟨x7, rfl, hO8.out, hK8.out⟩
end Go.Proofs.Ytpcbnoefgknihaa
