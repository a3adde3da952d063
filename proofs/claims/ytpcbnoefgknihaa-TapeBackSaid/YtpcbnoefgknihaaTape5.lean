/- A block of the tape, appended; walked. -/
import Derived.Test.YtpcbnoefgknihaaTape4
import Derived.Deep.OwnRows
namespace Go.Proofs.Ytpcbnoefgknihaa
open Go.ChangeShapes Go.WideShapes Go.ChangeAt Go.RowKit
set_option linter.unusedVariables false
set_option linter.unusedSimpArgs false
theorem mk_i64t (n : Nat) (hn : n ≤ 1000000) (w : World) : (Instr.makeSlice 79 (.int .i64 (n : Int)) (.int .i64 (n : Int))).run Try.prog w = .ok (.slice (some ⟨w.heap.size, 0, none⟩) n n) (w.alloc (.cells (madeCells #[.int .i64 0] n) 2)) :=
  run_make_row' 79 2 (.int .i64 0) 8 Try.underlying79 (by kernel_rfl) rfl .i64 .i64 n (by omega) (by omega) w
theorem zeros_row (w : World) (n : Nat) : RowIs .i64 (w.alloc (.cells (madeCells #[.int .i64 0] n) 2)) (some ⟨w.heap.size, 0, none⟩) (List.replicate n 0) := by
  refine .inr ⟨w.heap.size, 0, rfl, by simp, fun i hi => ?_⟩
  rw [List.length_replicate] at hi
  have h := (World.rowIs_made w (.int .i64 0) n 2).cell hi
  rw [Nat.zero_add, h]
  simp [List.getD, hi]
/-- The row before, and where it may not lie. -/
def PrvK (x : Value) (ap : Option Addr) (P : List Int) (v : World) : Prop := RowIs .i64 v ap P ∧ (∀ b, ap = some b → ogB x ≠ some b.block) ∧ ∀ b, ap = some b → b.block < v.heap.size
theorem PrvK.next {x x' : Value} {ap : Option Addr} {P : List Int} {v v' : World} (h : PrvK x ap P v) (k : OgK x v v') (n : OgN x x' v) : PrvK x' ap P v' := by
  refine ⟨h.1.ogk k h.2.1, fun b hb => ?_, fun b hb => Nat.lt_of_lt_of_le (h.2.2 b hb) k.size⟩
  rcases n with n | ⟨g, n, hg⟩
  · rw [n]; exact h.2.1 b hb
  · rw [n]
    intro e
    injection e with e
    have := h.2.2 b hb
    omega
theorem fit_at {width : Nat} {Z : List (List Int)} (h : fitB (width : Int) Z = true) {i : Nat} (hi : i < Z.length) : (Z.getD i []).length = width := by
  have := of_decide_eq_true h i hi
  omega
theorem pvR_len {width : Nat} {Z : List (List Int)} (h : fitB (width : Int) Z = true) {i : Nat} (hi : i ≤ Z.length) : (pvR width Z i).length = width := by
  cases i with
  | zero => simp [pvR]
  | succ i => exact fit_at h (by omega)
theorem hd_len (Z : List (List Int)) : (hdB Z).length = 2 := rfl
theorem grid_prv {a : Option Addr} {A : Nat → Option Addr} {C : Nat → Nat} {Z : List (List Int)} {w0 u : World} {B : Nat} {x : Value} (h : GridIs .i64 w0 a A C Z) (hb : Below w0.heap.size w0 u) (hB0 : w0.heap.size ≤ B) {i : Nat} (hi : i < Z.length) (h1 : 1 ≤ (Z.getD i []).length) (hx : ∀ g, ogB x = some g → B ≤ g) : PrvK x (A i) (Z.getD i []) u := by
  obtain ⟨b, off, e, hlt, -⟩ := (h.rows i hi).at (show 0 < (Z.getD i []).length by omega)
  refine ⟨(h.rows i hi).below hb, fun b' hb' => ?_, fun b' hb' => ?_⟩
  · rw [e] at hb'; injection hb' with hb'; subst hb'
    intro q
    have := hx _ q
    simp at this
    omega
  · rw [e] at hb'; injection hb' with hb'; subst hb'
    exact Nat.lt_of_lt_of_le hlt hb.size
set_option maxRecDepth 100000 in
set_option maxHeartbeats 8000000 in
theorem tappblk (B : Nat) (x : Value) (L : List Int) (width : Nat) (a : Option Addr) (A : Nat → Option Addr) (C : Nat → Nat) (Z : List (List Int)) (cap : Nat) (w0 w : World) (h : GridIs .i64 w0 a A C Z) (hb0 : Below w0.heap.size w0 w) (hB0 : w0.heap.size ≤ B) (hO : Og 5 B x (nvals .u8 L) w) (hB : B ≤ w.heap.size) (hL : L.length ≤ 500000) (hw1 : 1 ≤ width) (hw : width ≤ 16) (hn : Z.length ≤ 50) (hf : fitB (width : Int) Z = true) :
    Calls Try.prog 50 #[x, .int .i64 (width : Int), .slice a Z.length cap] w fun e w' => ∃ x', e = .returned x' ∧ Og 5 B x' (nvals .u8 (L ++ bkB width Z)) w' ∧ OgK x w w' ∧ OgN x x' w := by
  have HM := Lib.hid (fun u => mk_i64t width (by omega) u)
  have GR := Lib.hid (fun u (k : OgK x w u) => show Below w0.heap.size w0 u from hb0.trans ((k.below hO hB).mono hB0))
  have HX := Lib.hid (fun u y V (k : Og 5 B y V u) g (e : ogB y = some g) => (k.lt e).1)
  have TA := Lib.hid (fun y V n u (k : Og 5 B y V u) (k2 : B ≤ u.heap.size) (k3 : V.length ≤ 1000000) g1 g2 => tappn B y V n u k k2 k3 g1 g2)
  have HB := Lib.hid hB
  have HBv := Lib.hid hB
  have BL := Lib.hid (fun i (hi : i ≤ Z.length) => show (blB width Z i).length ≤ 8000 from by have := blB_len (width := width) (m := 16) (fun i hi => by have := fit_at hf hi; omega) i hi; omega)
  have HL := Lib.hid hL
  have HF := Lib.hid hf
  have HG := Lib.hid h
  have HW := Lib.hid hw
  have HW1 := Lib.hid hw1
  have HB0 := Lib.hid hB0
  obtain ⟨n, en⟩ : ∃ n, Z.length = n := ⟨_, rfl⟩
  have HN := Lib.hid (show n ≤ 50 by omega)
  have hn' : (n : Int) ≤ 50 := by omega
  have EN := Lib.hid en
  have LEN := Lib.hid (show (nvals .u8 L).length + 2 ≤ 1000000 by rw [nvals_len]; omega)
  have OX := Lib.hid (OgK.refl x w)
  have NX := Lib.hid (OgN.refl x w)
  rw [en]
  obtain ⟨ao, cp0, ex, -, -, -, -⟩ := hO.rowIs
  replace hO := Lib.hid hO
  have EX := Lib.hid ex
  obtain ⟨z, ez⟩ : ∃ z, z = (n : Int) % 256 := ⟨_, rfl⟩
  have j1 : IntKind.u8.wrap (n : Int) = z := by rw [IntKind.wrap_u8, ez]
  have ehd := Lib.hid (show hdB Z = [90, z] by unfold hdB; rw [en, ez])
  clear h hb0 hB0 hB hL hw hw1 hn hf en ez
  subst ex
  have hA := Lib.hid ((Below.refl w.heap.size w).alloc (Nat.le_refl _) (.cells #[.int .u8 90, .int .u8 z] 5))
  have hO3 := Lib.hid (hO.out.bel hA.out)
  have hz3 := Lib.hid (show B ≤ (w.alloc (.cells #[.int .u8 90, .int .u8 z] 5)).heap.size from by have := HBv.out; simp; omega)
  have SR := Lib.hid (src_new 22 5 5 Try.underlying22 w [.int .u8 90, .int .u8 z] (fun u hu => by simp at hu; rcases hu with rfl | rfl <;> rfl))
  go_enter Try.func50, Try.ntmps50
  go_upto_region 3 with (first | (at_builtin; refine wpList_append_og _ rfl (.tmp 16) (.tmp 20) 22 22 rfl 5 (.int .u8 0) 1 Try.underlying22 (by kernel_rfl) rfl B _ _ rfl hO3.out hz3.out _ 2 _ rfl SR.out (by have := LEN.out; unfold maxLen; omega) (by have := LEN.out; omega) ?_; intro x2 w5 hO5 hK5 hN5))
  have hK := Lib.hid (OgK.bl hA.out hK5)
  have hN := Lib.hid (hN5.bl hA.out.size)
  have hO6 := Lib.hid (show Og 5 B x2 (nvals .u8 (L ++ hdB Z)) w5 by rw [ehd.out, nvals_app]; exact hO5)
  clear hO5 hK5 hN5 hA hO3 hz3 SR j1 hO OX NX
  have HBv := Lib.hid (show B ≤ w5.heap.size from Nat.le_trans HB.out hK.out.size)
  have hA := Lib.hid ((Below.refl w5.heap.size w5).alloc (Nat.le_refl _) (.cells (madeCells #[.int .i64 0] width) 2))
  have hO7 := Lib.hid (hO6.out.bel hA.out)
  have hK7 := Lib.hid (hK.out.lb hA.out)
  have hP := Lib.hid (show PrvK x2 (some ⟨w5.heap.size, 0, none⟩) (pvR width Z 0) (w5.alloc (.cells (madeCells #[.int .i64 0] width) 2)) from ⟨zeros_row w5 width, fun b hb => by injection hb with hb; subst hb; intro q; have := (hO6.out.lt q).2; simp at this, fun b hb => by injection hb with hb; subst hb; simp⟩)
  clear hA hO6 hK HBv
  have HM5 := HM.out w5
  clear HM
  go_wp2_with fail
  go_loopw [0, 8, 26] (fun y p i v => ∃ (k : Nat) (x' : Value) (ap : Option Addr) (cp : Nat), k ≤ n ∧ y = x' ∧ p = .slice ap width cp ∧ i = .int .i64 (k : Int) ∧ Hid (Og 5 B x' (nvals .u8 (L ++ hdB Z ++ blB width Z k)) v) ∧ Hid (OgK (.slice ao L.length cp0) w v) ∧ Hid (OgN (.slice ao L.length cp0) x' w) ∧ Hid (PrvK x' ap (pvR width Z k) v)) (fun _ _ i _ => n - (intOf i).toNat)
  case atStart => exact ⟨0, x2, _, width, by omega, rfl, rfl, rfl, Lib.hid (by simpa [blB] using hO7.out), hK7, hN, hP⟩
  case round =>
    clear hO7 hK7 hN hP HM5
    obtain ⟨k, x', ap, cp, hk, rfl, rfl, rfl, hO, hK, hN, hP⟩ := hrel
    generalize wr = v at *
    by_cases hlt : k < n
    · have h1 : (k : Int) < (n : Int) := by omega
      have h0 : 0 ≤ (k : Int) := by omega
      have hbv := Lib.hid (GR.out v hK.out)
      obtain ⟨b, off, rfl, -, hc⟩ := (HG.out.below hbv.out).at (show k < Z.length by rw [EN.out]; exact hlt)
      have hRL := fit_at HF.out (show k < Z.length by rw [EN.out]; exact hlt)
      have GP := Lib.hid (fun u y V (q : OgK (.slice ao L.length cp0) w u) (q2 : Og 5 B y V u) => grid_prv (x := y) HG.out (GR.out u q) HB0.out (show k < Z.length by rw [EN.out]; exact hlt) (by rw [hRL]; exact HW1.out) (HX.out u y V q2))
      have PL := pvR_len HF.out (show k ≤ Z.length by rw [EN.out]; exact hk)
      have BS := Lib.hid (show blB width Z (k + 1) = blB width Z k ++ rwB (pvR width Z k) (Z.getD k []) (Z.getD k []).length from rfl)
      have PS := Lib.hid (show pvR width Z (k + 1) = Z.getD k [] from rfl)
      have BL1 := Lib.hid (BL.out k (by rw [EN.out]; exact hk))
      rw [hRL] at hc BS
      generalize pvR width Z k = P at *
      generalize Z.getD k [] = R at *
      generalize blB width Z k = BK at *
      generalize A k = ak at *
      generalize C k = ck at *
      replace BS := Lib.hid BS
      have hwi : (width : Int) ≤ 16 := by have := HW.out; omega
      replace hRL := Lib.hid hRL
      replace PL := Lib.hid PL
      go_wp2_with fail
      go_loopw [0, 32] (fun y j v' => ∃ (m : Nat) (x'' : Value), m ≤ width ∧ y = x'' ∧ j = .int .i64 (m : Int) ∧ Hid (Og 5 B x'' (nvals .u8 (L ++ hdB Z ++ BK ++ rwB P R m)) v') ∧ Hid (OgK (.slice ao L.length cp0) w v') ∧ Hid (OgN (.slice ao L.length cp0) x'' w) ∧ Hid (PrvK x'' ap P v')) (fun _ j _ => width - (intOf j).toNat)
      case atStart => exact ⟨0, _, by omega, rfl, rfl, Lib.hid (by simpa [rwB] using hO.out), hK, hN, hP⟩
      case round =>
        clear hc hbv hO hK hN hP
        obtain ⟨m, x'', hm, rfl, rfl, hO, hK, hN, hP⟩ := hrel
        generalize wr = v1 at *
        by_cases hltm : m < width
        · have m1 : (m : Int) < (width : Int) := by omega
          have m0 : 0 ≤ (m : Int) := by omega
          have GQ := GP.out v1 _ _ hK.out hO.out
          obtain ⟨b1, o1, e1, -, c1⟩ := GQ.1.at (show m < R.length by rw [hRL.out]; exact hltm)
          obtain ⟨b2, o2, e2, -, c2⟩ := hP.out.1.at (show m < P.length by rw [PL.out]; exact hltm)
          have RS := Lib.hid (show rwB P R (m + 1) = rwB P R m ++ vn (fo (IntKind.i64.wrap (R.getD m 0 - P.getD m 0))) from rfl)
          have RL := rwB_len P R m
          subst e1 e2
          clear GQ GP
          generalize R.getD m 0 = rv at *
          generalize P.getD m 0 = pv at *
          generalize rwB P R m = RB at *
          have dw := i64_within (rv - pv)
          obtain ⟨d, ed⟩ : ∃ d, IntKind.i64.wrap (rv - pv) = d := ⟨_, rfl⟩
          rw [ed] at dw RS
          have T1 := Lib.hid (TA.out _ _ d v1 hO.out (Nat.le_trans HB.out hK.out.size) (by have := HL.out; have := BL1.out; have := HW.out; simp only [nvals_len, List.length_append, hd_len]; omega) dw.1 dw.2)
          replace RS := Lib.hid RS
          clear dw RL
          go_wp2_with fail
          refine T1.out.mono ?_
          rintro e w6 ⟨x3, rfl, hO6, hK6, hN6⟩
          have hO8 := Lib.hid (show Og 5 B x3 (nvals .u8 (L ++ hdB Z ++ BK ++ rwB P R (m + 1))) w6 by rw [RS.out, ← List.append_assoc, nvals_app]; exact hO6)
          have hP8 := Lib.hid (hP.out.next hK6 hN6)
          have hN8 := Lib.hid (hN.out.trans hN6 hK.out.size)
          have hK8 := Lib.hid (hK.out.trans hN.out hK6)
          clear hO6 hK6 hN6 T1 hO hK hN hP c1 c2 ed
          go_wp2
          go_roundw
          case rel => exact ⟨m + 1, x3, by omega, rfl, by go_num, hO8, hK8, hN8, hP8⟩
          case measure => simp [intOf]; omega
        · obtain rfl : m = width := by omega
          have mge : ¬ (m : Int) < (m : Int) := by omega
          have hO8 := Lib.hid (show Og 5 B _ (nvals .u8 (L ++ hdB Z ++ blB m Z (k + 1))) v1 by rw [BS.out, ← List.append_assoc]; exact hO.out)
          have hP8 := Lib.hid (show PrvK _ _ (pvR m Z (k + 1)) v1 by rw [PS.out]; exact GP.out v1 _ _ hK.out hO.out)
          clear hO hP GP hltm
          go_wp2
          go_roundw
          case rel => exact ⟨k + 1, _, _, _, by omega, rfl, rfl, by go_num, hO8, hK, hN, hP8⟩
          case measure => simp [intOf]; omega
    · obtain rfl : k = n := by omega
      clear hlt hP
      rw [show L ++ hdB Z ++ blB width Z k = L ++ bdB width Z by unfold bdB; rw [EN.out, List.append_assoc]] at hO
      have DL := Lib.hid (show (bdB width Z).length ≤ 8002 ∧ 2 ≤ (bdB width Z).length by have := BL.out k (by rw [EN.out]; omega); unfold bdB; rw [EN.out, List.length_append, hd_len]; omega)
      obtain ⟨a9, c9, e9, hc9, hr9, hn9, hs9⟩ := hO.out.rowIs
      cases a9 with
      | none => exact absurd (congrArg List.length (hn9 rfl).1) (by have := DL.out; simp only [List.length_append, List.length_nil]; omega)
      | some a9 =>
        obtain ⟨g9, o9, s9⟩ := a9
        obtain ⟨hs1, hs2⟩ := hs9 _ rfl
        have hs1 : s9 = none := hs1
        subst hs1
        obtain ⟨T, eT⟩ : ∃ T, (L ++ bdB width Z).length = T := ⟨_, rfl⟩
        have hr10 : RowIs .u8 v (some ⟨g9, o9 + L.length, none⟩) (bdB width Z) := by
          rcases hr9 with q | ⟨b, off, q, hb, hc⟩
          · exact absurd (congrArg List.length q) (by have := DL.out; simp only [List.length_append, List.length_nil]; omega)
          · injection q with q; injection q with q1 q2; subst q1 q2
            exact .inr ⟨g9, o9 + L.length, rfl, hb, fun i hi => by
              have := hc (L.length + i) (by rw [List.length_append]; omega)
              rw [Nat.add_assoc, this]
              simp [List.getD, List.getElem?_append_right]⟩
        have TS := Lib.hid (fun cp => tsum (some ⟨g9, o9 + L.length, none⟩) cp (bdB width Z) v hr10 (by have := DL.out; unfold maxLen; omega) (bdB_byl width Z).by8)
        rw [eT] at e9 hc9
        have eT2 : T = L.length + (bdB width Z).length := by rw [← eT, List.length_append]
        have q1 : (L.length : Int) ≤ (T : Int) := by omega
        have q2 : (T : Int) ≤ (c9 : Int) := by omega
        have q3 : (0 : Int) ≤ (L.length : Int) := by omega
        have q4 : c9 - L.length ≠ 0 := by have := DL.out; omega
        have q5 : ¬ c9 = L.length := by have := DL.out; omega
        have q6 : (L.length : Int) < (c9 : Int) := by have := DL.out; omega
        have eC := Lib.hid (show c9 - L.length + L.length = c9 by omega)
        have SBL := Lib.hid (show bkB width Z = bdB width Z ++ [((crI (bdB width Z) / 256 : Nat) : Int), ((crI (bdB width Z) % 256 : Nat) : Int)] from rfl)
        have SLT := crI_lt (bdB width Z)
        generalize hS : crI (bdB width Z) = S at *
        obtain ⟨y0, ey0⟩ : ∃ y : Nat, y = S / 256 := ⟨_, rfl⟩
        obtain ⟨y1, ey1⟩ : ∃ y : Nat, y = S % 256 := ⟨_, rfl⟩
        have j1 : (S : Int) / 256 = (y0 : Int) := by omega
        have j2 : IntKind.u8.wrap (y0 : Int) = (y0 : Int) := by rw [IntKind.wrap_u8]; omega
        have j3 : IntKind.u8.wrap (S : Int) = (y1 : Int) := by rw [IntKind.wrap_u8]; omega
        rw [← ey0, ← ey1] at SBL
        have LEN := Lib.hid (show (nvals .u8 (L ++ bdB width Z)).length + 2 ≤ 1000000 by rw [nvals_len, List.length_append]; have := HL.out; have := DL.out; omega)
        have HBv := Lib.hid (show B ≤ v.heap.size from Nat.le_trans HB.out hK.out.size)
        have hA := Lib.hid ((Below.refl v.heap.size v).alloc (Nat.le_refl _) (.cells #[.int .u8 (y0 : Int), .int .u8 (y1 : Int)] 5))
        have hO3 := Lib.hid (hO.out.bel hA.out)
        have hz3 := Lib.hid (show B ≤ (v.alloc (.cells #[.int .u8 (y0 : Int), .int .u8 (y1 : Int)] 5)).heap.size from by have := HBv.out; simp; omega)
        have SR := Lib.hid (src_new 22 5 5 Try.underlying22 v [.int .u8 (y0 : Int), .int .u8 (y1 : Int)] (fun u hu => by simp at hu; rcases hu with rfl | rfl <;> rfl))
        clear SLT hS ey0 ey1
        replace SBL := Lib.hid SBL
        replace eT2 := Lib.hid eT2
        replace eT := Lib.hid eT
        clear hr9 hn9 hs9 hr10 hs2
        subst e9
        go_upto_region 15 with (fail)
        rw [show T - L.length = (bdB width Z).length by have := eT2.out; omega]
        refine (TS.out _).mono ?_
        rintro e w9 ⟨rfl, rfl⟩
        clear TS q1 q2 q3 q4 q5 q6
        go_wp2_with (first | (at_builtin; refine wpList_append_og _ rfl (.tmp 52) (.tmp 58) 22 22 rfl 5 (.int .u8 0) 1 Try.underlying22 (by kernel_rfl) rfl B _ _ rfl hO3.out hz3.out _ 2 _ rfl SR.out (by have := LEN.out; unfold maxLen; omega) (by have := LEN.out; omega) ?_; intro x7 w7 hO5 hK5 hN5))
        have hK8 := Lib.hid (hK.out.trans hN.out (OgK.bl hA.out hK5))
        have hN8 := Lib.hid (hN.out.trans (hN5.bl hA.out.size) hK.out.size)
        have hO8 := Lib.hid (show Og 5 B x7 (nvals .u8 (L ++ bkB width Z)) w7 by rw [SBL.out, ← List.append_assoc, nvals_app]; exact hO5)
        clear hO5 hK5 hN5 hA hO3 hz3 SR hO hK hN
        try go_wp2
        go_ret
        exact ⟨x7, rfl, hO8.out, hK8.out, hN8.out⟩
end Go.Proofs.Ytpcbnoefgknihaa
