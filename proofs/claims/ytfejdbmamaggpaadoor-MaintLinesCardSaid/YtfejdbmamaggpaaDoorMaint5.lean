/- The document's codes, Name and Told; walked. -/
import Derived.Test.YtfejdbmamaggpaaDoorMaint1
namespace Go.Proofs.YtfejdbmamaggpaaDoor
open Go.ChangeShapes Go.WideShapes Go.ChangeAt Go.RowKit
set_option linter.unusedVariables false
set_option linter.unusedSimpArgs false
def CdM (w : World) (g : Nat) : Prop := g < w.heap.size ∧ ∀ i, i < 7 → w.cell? ⟨g, i, none⟩ = some (.int .i64 (mC i))
theorem CdM.bel {w u : World} {g : Nat} (h : CdM w g) (k : Below w.heap.size w u) : CdM u g := ⟨Nat.lt_of_lt_of_le h.1 k.size, fun i hi => (bc k h.1).trans (h.2 i hi)⟩
def NdM (w : World) (g : Nat) : Prop := g < w.heap.size ∧ ∀ i, i < 7 → w.cell? ⟨g, i, none⟩ = some (.string (mN i))
theorem cd_new (w : World) : CdM (w.alloc (.cells #[.int .i64 1, .int .i64 2, .int .i64 3, .int .i64 4, .int .i64 9, .int .i64 10, .int .i64 11] 3)) w.heap.size := by
  refine ⟨by simp, fun i hi => ?_⟩
  have e : ∀ o (x : Value), (#[.int .i64 1, .int .i64 2, .int .i64 3, .int .i64 4, .int .i64 9, .int .i64 10, .int .i64 11] : Array Value)[o]? = some x → (w.alloc (.cells #[.int .i64 1, .int .i64 2, .int .i64 3, .int .i64 4, .int .i64 9, .int .i64 10, .int .i64 11] 3)).cell? ⟨w.heap.size, o, none⟩ = some x := fun o x h => by rw [cell_of_row _ w.heap.size _ _ _ _ (heap_alloc_new w _)]; exact h
  match i, hi with
  | 0, _ => exact e 0 _ rfl
  | 1, _ => exact e 1 _ rfl
  | 2, _ => exact e 2 _ rfl
  | 3, _ => exact e 3 _ rfl
  | 4, _ => exact e 4 _ rfl
  | 5, _ => exact e 5 _ rfl
  | 6, _ => exact e 6 _ rfl
  | i + 7, h => omega
theorem nd_new (w : World) : NdM (w.alloc (.cells #[.string ⟨#[112, 105, 116, 111, 116, 49, 45, 108, 97, 116, 99, 104, 101, 100]⟩, .string ⟨#[112, 105, 116, 111, 116, 50, 45, 108, 97, 116, 99, 104, 101, 100]⟩, .string ⟨#[115, 116, 97, 116, 105, 99, 49, 45, 108, 97, 116, 99, 104, 101, 100]⟩, .string ⟨#[115, 116, 97, 116, 105, 99, 50, 45, 108, 97, 116, 99, 104, 101, 100]⟩, .string ⟨#[114, 101, 115, 101, 116]⟩, .string ⟨#[109, 111, 100, 101, 45, 113]⟩, .string ⟨#[109, 111, 100, 101, 45, 112]⟩] 9)) w.heap.size := by
  refine ⟨by simp, fun i hi => ?_⟩
  have e : ∀ o (x : Value), (#[.string ⟨#[112, 105, 116, 111, 116, 49, 45, 108, 97, 116, 99, 104, 101, 100]⟩, .string ⟨#[112, 105, 116, 111, 116, 50, 45, 108, 97, 116, 99, 104, 101, 100]⟩, .string ⟨#[115, 116, 97, 116, 105, 99, 49, 45, 108, 97, 116, 99, 104, 101, 100]⟩, .string ⟨#[115, 116, 97, 116, 105, 99, 50, 45, 108, 97, 116, 99, 104, 101, 100]⟩, .string ⟨#[114, 101, 115, 101, 116]⟩, .string ⟨#[109, 111, 100, 101, 45, 113]⟩, .string ⟨#[109, 111, 100, 101, 45, 112]⟩] : Array Value)[o]? = some x → (w.alloc (.cells #[.string ⟨#[112, 105, 116, 111, 116, 49, 45, 108, 97, 116, 99, 104, 101, 100]⟩, .string ⟨#[112, 105, 116, 111, 116, 50, 45, 108, 97, 116, 99, 104, 101, 100]⟩, .string ⟨#[115, 116, 97, 116, 105, 99, 49, 45, 108, 97, 116, 99, 104, 101, 100]⟩, .string ⟨#[115, 116, 97, 116, 105, 99, 50, 45, 108, 97, 116, 99, 104, 101, 100]⟩, .string ⟨#[114, 101, 115, 101, 116]⟩, .string ⟨#[109, 111, 100, 101, 45, 113]⟩, .string ⟨#[109, 111, 100, 101, 45, 112]⟩] 9)).cell? ⟨w.heap.size, o, none⟩ = some x := fun o x h => by rw [cell_of_row _ w.heap.size _ _ _ _ (heap_alloc_new w _)]; exact h
  match i, hi with
  | 0, _ => exact e 0 _ rfl
  | 1, _ => exact e 1 _ rfl
  | 2, _ => exact e 2 _ rfl
  | 3, _ => exact e 3 _ rfl
  | 4, _ => exact e 4 _ rfl
  | 5, _ => exact e 5 _ rfl
  | 6, _ => exact e 6 _ rfl
  | i + 7, h => omega
set_option maxRecDepth 100000 in
set_option maxHeartbeats 8000000 in
theorem rcodes (w : World) : Calls Tryd.prog 86 #[] w fun e w' => ∃ g, e = .returned (.slice (some ⟨g, 0, none⟩) 7 7) ∧ CdM w' g ∧ Below w.heap.size w w' := by
  have hT := Lib.hid (cd_new w)
  have hB := Lib.hid ((Below.refl w.heap.size w).alloc (Nat.le_refl _) (.cells #[.int .i64 1, .int .i64 2, .int .i64 3, .int .i64 4, .int .i64 9, .int .i64 10, .int .i64 11] 3))
  go_enter Tryd.func86, Tryd.ntmps86
  go_wp2
  go_ret
  exact ⟨_, rfl, hT.out, hB.out⟩
set_option maxRecDepth 100000 in
set_option maxHeartbeats 8000000 in
theorem rnms (w : World) : Calls Tryd.prog 87 #[] w fun e w' => ∃ g, e = .returned (.slice (some ⟨g, 0, none⟩) 7 7) ∧ NdM w' g ∧ Below w.heap.size w w' := by
  have hT := Lib.hid (nd_new w)
  have hB := Lib.hid ((Below.refl w.heap.size w).alloc (Nat.le_refl _) (.cells #[.string ⟨#[112, 105, 116, 111, 116, 49, 45, 108, 97, 116, 99, 104, 101, 100]⟩, .string ⟨#[112, 105, 116, 111, 116, 50, 45, 108, 97, 116, 99, 104, 101, 100]⟩, .string ⟨#[115, 116, 97, 116, 105, 99, 49, 45, 108, 97, 116, 99, 104, 101, 100]⟩, .string ⟨#[115, 116, 97, 116, 105, 99, 50, 45, 108, 97, 116, 99, 104, 101, 100]⟩, .string ⟨#[114, 101, 115, 101, 116]⟩, .string ⟨#[109, 111, 100, 101, 45, 113]⟩, .string ⟨#[109, 111, 100, 101, 45, 112]⟩] 9))
  go_enter Tryd.func87, Tryd.ntmps87
  go_wp2
  go_ret
  exact ⟨_, rfl, hT.out, hB.out⟩
set_option maxRecDepth 100000 in
set_option maxHeartbeats 8000000 in
theorem rname (c : Int) (w : World) : Calls Tryd.prog 38 #[.int .i64 c] w fun e w' => (∃ s, e = .returned (.tuple #[.string s, .bool (nmB c)])) ∧ Below w.heap.size w w' := by
  have CO := Lib.hid (rcodes w)
  go_enter Tryd.func38, Tryd.ntmps38
  go_wp2_with fail
  refine CO.out.mono ?_
  rintro e u1 ⟨g, rfl, hT, hb⟩
  have h1 := Lib.hid hb
  have HT := Lib.hid (fun u (k : Below u1.heap.size u1 u) => hT.bel k)
  clear hb hT CO
  go_wp2_with fail
  go_loopw [5] (fun i v => ∃ k : Nat, k ≤ 7 ∧ i = .int .i64 (k : Int) ∧ Hid (Below u1.heap.size u1 v) ∧ Hid (∀ j, j < k → mC j ≠ c)) (fun i _ => 7 - (intOf i).toNat)
  case atStart => exact ⟨0, by omega, rfl, Lib.hid (Below.refl _ _), Lib.hid (fun j hj => by omega)⟩
  case round =>
    obtain ⟨k, hk, rfl, hb, hN⟩ := hrel
    generalize wr = v at *
    have hbw := Lib.hid (show Below w.heap.size w v from h1.out.trans (hb.out.mono h1.out.size))
    by_cases hlt : k < 7
    · have hT := HT.out v hb.out
      have x0 := hT.2 k hlt
      have hg := hT.1
      have j1 : (k : Int) < 7 := by omega
      have j2 : IntKind.i64.wrap ((k : Int) + 1) = (k : Int) + 1 := by rw [IntKind.wrap_i64]; omega
      have j3 : 0 ≤ (k : Int) := by omega
      have RN := rnms v
      clear hT
      obtain ⟨m, em⟩ : ∃ m, mC k = m := ⟨_, rfl⟩
      have EM := Lib.hid em
      rw [em] at x0
      clear em
      by_cases z : m = c
      · have y : (m == c) = true := beq_iff_eq.2 z
        have hB := Lib.hid (show nmB c = true from (nmB_iff c).2 ⟨k, hlt, EM.out.trans z⟩)
        have RN := Lib.hid RN
        clear z
        go_wp2_with fail
        refine RN.out.mono ?_
        rintro e u2 ⟨g2, rfl, hT2, hb2⟩
        have x9 := hT2.2 k hlt
        have hg2 := hT2.1
        have h2 := Lib.hid (show Below w.heap.size w u2 from hbw.out.trans (hb2.mono hbw.out.size))
        clear hb2 hT2
        generalize mN k = s at *
        go_wp2
        go_ret2
        exact ⟨⟨s, by rw [hB.out]; rfl⟩, h2.out⟩
      · have y : (m == c) = false := beq_eq_false_iff_ne.2 z
        have hN2 := Lib.hid (show ∀ j, j < k + 1 → mC j ≠ c from fun j hj => by
          by_cases q : j = k
          · subst q; rw [EM.out]; exact z
          · exact hN.out j (by omega))
        clear z
        go_wp2
        go_roundw
        case rel => exact ⟨k + 1, by omega, by first | rfl | go_num, hb, hN2⟩
        case measure => simp [intOf]; omega
    · obtain rfl : k = 7 := by omega
      have hB := Lib.hid (show nmB c = false by
        cases h : nmB c with
        | false => rfl
        | true => obtain ⟨j, hj, e⟩ := (nmB_iff c).1 h; exact absurd e (hN.out j hj))
      go_wp2
      go_ret2
      exact ⟨⟨_, by rw [hB.out]; rfl⟩, hbw.out⟩
def tdB (T C A : Int) : Bool := nmB C && decide (0 ≤ T) && decide (T ≤ 1000000) && decide (0 ≤ A) && (decide (A = 0) || (decide (A < 6) && decide (9 < C)))
theorem td_rp {T C A : Int} (h : hmB C = true) : tdB T C A = rpB T C A := by
  have hC : 9 < C := by
    unfold hmB at h
    rw [Bool.or_eq_true, beq_iff_eq, beq_iff_eq] at h
    omega
  unfold tdB rpB
  rw [h, decide_eq_true hC, Bool.and_true]
  simp only [if_true]
  by_cases z : 0 ≤ A
  · have e : (decide (A = 0) || decide (A < 6)) = decide (A ≤ 5) := by
      by_cases y : A ≤ 5
      · rw [decide_eq_true y, decide_eq_true (show A < 6 by omega)]; simp
      · rw [decide_eq_false y, decide_eq_false (show ¬ A < 6 by omega), decide_eq_false (show ¬ A = 0 by omega)]; rfl
    rw [e]
  · rw [decide_eq_false z]; simp
set_option maxRecDepth 100000 in
set_option maxHeartbeats 8000000 in
theorem rtold (T C A : Int) (w : World) : Calls Tryd.prog 49 #[.agg #[.int .i64 T, .int .i64 C, .int .i64 A]] w fun e w' => e = .returned (.bool (tdB T C A)) ∧ Below w.heap.size w w' := by
  obtain ⟨V, eV, hbV, HC⟩ := ev_box w T C A
  have HW := Lib.hid (fun x (k : Below V.heap.size V x) => (hbV.trans (k.mono hbV.size) : Below w.heap.size w x))
  obtain ⟨B, eB⟩ : ∃ B, w.heap.size = B := ⟨_, rfl⟩
  rw [eB] at HC hbV
  replace HC := Lib.hid HC
  replace eV := Lib.hid eV
  have h0 := Lib.hid (Below.refl V.heap.size V)
  have NM := fun x => rname C x
  unfold tdB
  obtain ⟨n, en⟩ : ∃ n, nmB C = n := ⟨_, rfl⟩
  rw [en] at NM
  rw [en]
  replace NM := Lib.hid NM
  clear en hbV
  cases n
  · go_enter Tryd.func49, Tryd.ntmps49
    obtain ⟨c0, c1, c2⟩ := HC.out V h0.out
    go_upto_region 1 with (fail)
    try rw [eB]
    rw [← eV.out]
    go_wp2_with fail
    refine (NM.out V).mono ?_
    rintro e u1 ⟨⟨s, rfl⟩, hb⟩
    have k1 := Lib.hid (show Below V.heap.size V u1 from hb)
    clear hb c0 c1 c2
    obtain ⟨c0, c1, c2⟩ := HC.out u1 k1.out
    go_wp2
    go_ret
    exact ⟨ret_bool (by first | rfl | simp), by first | exact HW.out _ k1.out | (rw [← eB]; exact HW.out _ k1.out)⟩
  by_cases z1 : T < 0
  · have a1 : decide (T < 0) = true := decide_eq_true z1
    have b1 : decide (0 ≤ T) = false := decide_eq_false (by omega)
    go_enter Tryd.func49, Tryd.ntmps49
    obtain ⟨c0, c1, c2⟩ := HC.out V h0.out
    go_upto_region 1 with (fail)
    try rw [eB]
    rw [← eV.out]
    go_wp2_with fail
    refine (NM.out V).mono ?_
    rintro e u1 ⟨⟨s, rfl⟩, hb⟩
    have k1 := Lib.hid (show Below V.heap.size V u1 from hb)
    clear hb c0 c1 c2
    obtain ⟨c0, c1, c2⟩ := HC.out u1 k1.out
    go_wp2
    go_ret
    exact ⟨ret_bool (by simp [b1]), by first | exact HW.out _ k1.out | (rw [← eB]; exact HW.out _ k1.out)⟩
  have a1 : decide (T < 0) = false := decide_eq_false z1
  have b1 : decide (0 ≤ T) = true := decide_eq_true (by omega)
  by_cases z2 : 1000000 < T
  · have a2 : decide (1000000 < T) = true := decide_eq_true z2
    have b2 : decide (T ≤ 1000000) = false := decide_eq_false (by omega)
    go_enter Tryd.func49, Tryd.ntmps49
    obtain ⟨c0, c1, c2⟩ := HC.out V h0.out
    go_upto_region 1 with (fail)
    try rw [eB]
    rw [← eV.out]
    go_wp2_with fail
    refine (NM.out V).mono ?_
    rintro e u1 ⟨⟨s, rfl⟩, hb⟩
    have k1 := Lib.hid (show Below V.heap.size V u1 from hb)
    clear hb c0 c1 c2
    obtain ⟨c0, c1, c2⟩ := HC.out u1 k1.out
    go_wp2
    go_ret
    exact ⟨ret_bool (by simp [b2]), by first | exact HW.out _ k1.out | (rw [← eB]; exact HW.out _ k1.out)⟩
  have a2 : decide (1000000 < T) = false := decide_eq_false z2
  have b2 : decide (T ≤ 1000000) = true := decide_eq_true (by omega)
  by_cases z3 : A < 0
  · have a3 : decide (A < 0) = true := decide_eq_true z3
    have b3 : decide (0 ≤ A) = false := decide_eq_false (by omega)
    go_enter Tryd.func49, Tryd.ntmps49
    obtain ⟨c0, c1, c2⟩ := HC.out V h0.out
    go_upto_region 1 with (fail)
    try rw [eB]
    rw [← eV.out]
    go_wp2_with fail
    refine (NM.out V).mono ?_
    rintro e u1 ⟨⟨s, rfl⟩, hb⟩
    have k1 := Lib.hid (show Below V.heap.size V u1 from hb)
    clear hb c0 c1 c2
    obtain ⟨c0, c1, c2⟩ := HC.out u1 k1.out
    go_wp2
    go_ret
    exact ⟨ret_bool (by simp [b3]), by first | exact HW.out _ k1.out | (rw [← eB]; exact HW.out _ k1.out)⟩
  have a3 : decide (A < 0) = false := decide_eq_false z3
  have b3 : decide (0 ≤ A) = true := decide_eq_true (by omega)
  by_cases z4 : A = 0
  · have a4 : (A == 0) = true := beq_iff_eq.2 z4
    rw [b1, b2, b3, decide_eq_true z4]
    clear z1 z2 z3 z4
    go_enter Tryd.func49, Tryd.ntmps49
    obtain ⟨c0, c1, c2⟩ := HC.out V h0.out
    go_upto_region 1 with (fail)
    try rw [eB]
    rw [← eV.out]
    go_wp2_with fail
    refine (NM.out V).mono ?_
    rintro e u1 ⟨⟨s, rfl⟩, hb⟩
    have k1 := Lib.hid (show Below V.heap.size V u1 from hb)
    clear hb c0 c1 c2
    obtain ⟨c0, c1, c2⟩ := HC.out u1 k1.out
    go_wp2
    go_ret
    exact ⟨ret_bool (by first | rfl | simp), by first | exact HW.out _ k1.out | (rw [← eB]; exact HW.out _ k1.out)⟩
  have a4 : (A == 0) = false := beq_eq_false_iff_ne.2 z4
  rw [b1, b2, b3, decide_eq_false z4]
  clear z4
  by_cases z5 : A < 6
  · have a5 : decide (A < 6) = true := decide_eq_true z5
    rw [a5]
    go_enter Tryd.func49, Tryd.ntmps49
    obtain ⟨c0, c1, c2⟩ := HC.out V h0.out
    go_upto_region 1 with (fail)
    try rw [eB]
    rw [← eV.out]
    go_wp2_with fail
    refine (NM.out V).mono ?_
    rintro e u1 ⟨⟨s, rfl⟩, hb⟩
    have k1 := Lib.hid (show Below V.heap.size V u1 from hb)
    clear hb c0 c1 c2
    obtain ⟨c0, c1, c2⟩ := HC.out u1 k1.out
    go_wp2
    go_ret
    exact ⟨ret_bool (by first | rfl | simp), by first | exact HW.out _ k1.out | (rw [← eB]; exact HW.out _ k1.out)⟩
  · have a5 : decide (A < 6) = false := decide_eq_false z5
    rw [a5]
    go_enter Tryd.func49, Tryd.ntmps49
    obtain ⟨c0, c1, c2⟩ := HC.out V h0.out
    go_upto_region 1 with (fail)
    try rw [eB]
    rw [← eV.out]
    go_wp2_with fail
    refine (NM.out V).mono ?_
    rintro e u1 ⟨⟨s, rfl⟩, hb⟩
    have k1 := Lib.hid (show Below V.heap.size V u1 from hb)
    clear hb c0 c1 c2
    obtain ⟨c0, c1, c2⟩ := HC.out u1 k1.out
    go_wp2
    go_ret
    exact ⟨ret_bool (by first | rfl | simp), by first | exact HW.out _ k1.out | (rw [← eB]; exact HW.out _ k1.out)⟩
end Go.Proofs.YtfejdbmamaggpaaDoor
