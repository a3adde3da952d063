/- Both Names, with their names; walked. -/
import Derived.Test.YtfejdbmamaggpaaDoorMaint5
import Derived.Test.YtfejdbmamaggpaaDoorMaint9
namespace Go.Proofs.YtfejdbmamaggpaaDoor
open Go.ChangeShapes Go.WideShapes Go.ChangeAt Go.RowKit
set_option linter.unusedVariables false
set_option linter.unusedSimpArgs false
def nmT (c : Int) : ByteArray := if nmB c = true then nmS c else ⟨#[]⟩
set_option maxRecDepth 100000 in
set_option maxHeartbeats 8000000 in
theorem mnameX (c : Int) (w : World) : Calls Tryd.prog 37 #[.int .i64 c] w fun e w' => e = .returned (.tuple #[.string (nmT c), .bool (nmB c)]) ∧ Below w.heap.size w w' := by
  have CO := Lib.hid (mcodes w)
  go_enter Tryd.func37, Tryd.ntmps37
  go_wp2_with fail
  refine CO.out.mono ?_
  rintro e u1 ⟨g, rfl, hT, hb⟩
  have h1 := Lib.hid hb
  have BS := Lib.hid (mbs g c u1 hT)
  have HT := Lib.hid (fun u (k : Below u1.heap.size u1 u) => hT.bel k)
  clear hb hT CO
  go_wp2_with fail
  refine BS.out.mono ?_
  rintro e u2 ⟨i, hi, q1, q2, rfl, hb⟩
  have h2 := Lib.hid (show Below w.heap.size w u2 from h1.out.trans (hb.mono h1.out.size))
  have hf := nm_found q1 q2
  rw [hf]
  cases hN : nmB c with
  | false =>
    have e0 : nmT c = ⟨#[]⟩ := if_neg (by rw [hN]; simp)
    have E0 := Lib.hid e0
    clear hf q1 q2 hb e0
    go_wp2
    go_ret2
    exact ⟨by rw [E0.out, hN]; rfl, h2.out⟩
  | true =>
    rw [hN, Bool.and_eq_true, decide_eq_true_iff, decide_eq_true_iff] at hf
    obtain ⟨hi7, hc⟩ := hf
    have hTu := HT.out u2 hb
    obtain ⟨x0, x1⟩ := hTu.2 i hi7
    have hg := hTu.1
    have j1 : (i : Int) < 7 := by omega
    have j3 : 0 ≤ (i : Int) := by omega
    have FIN := Lib.hid (And.intro hi7 hc)
    have e0 : nmT c = mN i := by unfold nmT; rw [if_pos hN, ← hc, nmS_of hi7]
    have E0 := Lib.hid e0
    clear hTu q1 q2 hb hc e0
    generalize mN i = s at *
    go_wp2
    go_ret2
    exact ⟨by rw [E0.out, hN]; rfl, h2.out⟩
set_option maxRecDepth 100000 in
set_option maxHeartbeats 8000000 in
theorem rnameX (c : Int) (w : World) : Calls Tryd.prog 38 #[.int .i64 c] w fun e w' => e = .returned (.tuple #[.string (nmT c), .bool (nmB c)]) ∧ Below w.heap.size w w' := by
  have CO := Lib.hid (rcodes w)
  go_enter Tryd.func38, Tryd.ntmps38
  go_wp2_with fail
  refine CO.out.mono ?_
  rintro e u1 ⟨g, rfl, hT, hb⟩
  have h1 := Lib.hid hb
  have HT := Lib.hid (fun u (k : Below u1.heap.size u1 u) => hT.bel k)
  clear hb hT CO
  go_wp2_with fail
  go_loopw [5] (fun i v => ∃ k : Nat, k ≤ 7 ∧ i = .int .i64 (k : Int) ∧ Hid (Below u1.heap.size u1 v) ∧ Hid (∀ j, j < k → mC j ≠ c)) (fun i _ => 7 - (intOf i).toNat)
  case atStart => exact ⟨0, by omega, rfl, Lib.hid (Below.refl _ _), Lib.hid (fun j hj => by omega)⟩
  case round =>
    obtain ⟨k, hk, rfl, hb, hN⟩ := hrel
    generalize wr = v at *
    have hbw := Lib.hid (show Below w.heap.size w v from h1.out.trans (hb.out.mono h1.out.size))
    by_cases hlt : k < 7
    · have hT := HT.out v hb.out
      have x0 := hT.2 k hlt
      have hg := hT.1
      have j1 : (k : Int) < 7 := by omega
      have j2 : IntKind.i64.wrap ((k : Int) + 1) = (k : Int) + 1 := by rw [IntKind.wrap_i64]; omega
      have j3 : 0 ≤ (k : Int) := by omega
      have RN := rnms v
      clear hT
      obtain ⟨m, em⟩ : ∃ m, mC k = m := ⟨_, rfl⟩
      have EM := Lib.hid em
      rw [em] at x0
      clear em
      by_cases z : m = c
      · have y : (m == c) = true := beq_iff_eq.2 z
        have hB := Lib.hid (show nmB c = true from (nmB_iff c).2 ⟨k, hlt, EM.out.trans z⟩)
        have EZ := Lib.hid (EM.out.trans z)
        have RN := Lib.hid RN
        clear z
        go_wp2_with fail
        refine RN.out.mono ?_
        rintro e u2 ⟨g2, rfl, hT2, hb2⟩
        have x9 := hT2.2 k hlt
        have hg2 := hT2.1
        have h2 := Lib.hid (show Below w.heap.size w u2 from hbw.out.trans (hb2.mono hbw.out.size))
        clear hb2 hT2
        have e0 : nmT c = mN k := by unfold nmT; rw [if_pos hB.out, ← EZ.out, nmS_of hlt]
        have E0 := Lib.hid e0
        clear e0
        generalize mN k = s at *
        go_wp2
        go_ret2
        exact ⟨by rw [E0.out, hB.out]; rfl, h2.out⟩
      · have y : (m == c) = false := beq_eq_false_iff_ne.2 z
        have hN2 := Lib.hid (show ∀ j, j < k + 1 → mC j ≠ c from fun j hj => by
          by_cases q : j = k
          · subst q; rw [EM.out]; exact z
          · exact hN.out j (by omega))
        clear z
        go_wp2
        go_roundw
        case rel => exact ⟨k + 1, by omega, by first | rfl | go_num, hb, hN2⟩
        case measure => simp [intOf]; omega
    · obtain rfl : k = 7 := by omega
      have hB := Lib.hid (show nmB c = false by
        cases h : nmB c with
        | false => rfl
        | true => obtain ⟨j, hj, e⟩ := (nmB_iff c).1 h; exact absurd e (hN.out j hj))
      have e0 : nmT c = ⟨#[]⟩ := if_neg (by rw [hB.out]; simp)
      have E0 := Lib.hid e0
      clear e0
      go_wp2
      go_ret2
      exact ⟨by rw [E0.out, hB.out]; rfl, hbw.out⟩
end Go.Proofs.YtfejdbmamaggpaaDoor
