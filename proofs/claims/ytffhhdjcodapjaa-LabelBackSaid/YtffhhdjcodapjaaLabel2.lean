/- Package label: Right, Standard; walked. -/
import Derived.Test.YtffhhdjcodapjaaLabel1
import Derived.Test.YtffhhdjcodapjaaNew
import Derived.WalkMore
namespace Go.Proofs.Ytffhhdjcodapjaa
open Go.ChangeShapes Go.WideShapes Go.ChangeAt Go.RowKit
set_option linter.unusedVariables false
set_option linter.unusedSimpArgs false
set_option maxRecDepth 100000 in
set_option maxHeartbeats 8000000 in
theorem lbrep (a : Option Addr) (cap n : Nat) (NU BI SC : Nat → Int) (SG : Nat → Bool) (w : World) (h : Labs w a n NU BI SC SG) (hl : n ≤ 12) (h1 : 1 ≤ n) (hc : n ≤ cap) : Calls Try.prog 64 #[.slice a n cap] w fun e w' => e = .returned (.bool (!noR n NU)) ∧ Below w.heap.size w w' := by
  have HH := Lib.hid h
  clear h
  go_enter Try.func64, Try.ntmps64
  go_wp2
  go_step3
  go_wp2
  go_step3
  go_wp2
  go_loopw [3, 10] (fun fd i v => ∃ j : Nat, j ≤ n ∧ fd = .bool false ∧ i = .int .i64 (j : Int) ∧ Hid (Below w.heap.size w v) ∧ Hid (∀ i, i < j → ∀ k, k < i → NU i ≠ NU k)) (fun fd i _ => n - (intOf i).toNat)
  case atStart => exact ⟨0, by omega, rfl, rfl, Lib.hid (Below.refl _ _), Lib.hid (fun i hi => by omega)⟩
  case round =>
    obtain ⟨j, hj, rfl, rfl, hb, hU⟩ := hrel
    by_cases hlt : j < n
    · obtain ⟨b, off, ea, hbb, k0, k1, k2, k3⟩ := (HH.out.below hb.out).at hlt
      subst ea
      have j1 : (j : Int) < (n : Int) := by omega
      have j2 : IntKind.i64.wrap ((j : Int) + 1) = (j : Int) + 1 := by rw [IntKind.wrap_i64]; omega
      have j3 : (j : Int) ≤ (n : Int) := by omega
      have j4 : (j : Int) ≤ (cap : Int) := by omega
      have j5 : 0 ≤ (j : Int) := by omega
      obtain ⟨V, eV, hm0, hz, hcs⟩ := wlb_box wr (NU j) (BI j) (SC j) (SG j)
      replace eV := Lib.hid eV
      have hbV := Lib.hid (hb.out.trans (hm0.mono hb.out.size))
      replace hz := Lib.hid hz
      replace hcs := Lib.hid hcs
      have HS := Lib.hid (fun (hh : ∀ i, i < j → NU j ≠ NU i) i (hi : i < j + 1) => show ∀ k, k < i → NU i ≠ NU k from by
        by_cases e : i = j
        · subst e; exact hh
        · exact hU.out i (by omega))
      have HF := Lib.hid (fun k (hk : k < j) (e : NU j = NU k) => show noR n NU = false from decide_eq_false (fun hh => hh j hlt k hk e))
      clear hm0
      go_upto_region 5 with (fail)
      rw [← eV.out]
      clear k0 k1 k2 k3 hbb eV
      generalize wr = v0 at *
      go_wp2_with fail
      go_loopw [3, 19] (fun fd i u => ∃ k : Nat, k ≤ j ∧ fd = .bool false ∧ i = .int .i64 (k : Int) ∧ Hid (Below (v0.heap.size + 1) V u) ∧ Hid (∀ i, i < k → NU j ≠ NU i)) (fun fd i _ => j - (intOf i).toNat)
      case atStart => exact ⟨0, by omega, rfl, rfl, Lib.hid (Below.refl _ _), Lib.hid (fun i hi => by omega)⟩
      case round =>
        obtain ⟨k, hk, rfl, rfl, hu, hN⟩ := hrel
        have hwu := Lib.hid (hbV.out.trans (hu.out.mono (by have := hz.out; have := hb.out.size; omega)))
        obtain ⟨m0, m1, m2, m3⟩ := hcs.out _ hu.out
        by_cases hlk : k < j
        · obtain ⟨b', off', ea', hbb', k0, k1, k2, k3⟩ := (HH.out.below hwu.out).at (show k < n by omega)
          injection ea' with ea'
          injection ea' with e1 e2
          subst e1 e2
          have q1 : (k : Int) < (j : Int) := by omega
          have q2 : IntKind.i64.wrap ((k : Int) + 1) = (k : Int) + 1 := by rw [IntKind.wrap_i64]; omega
          obtain ⟨W, eW, hw0, hwz, hwc⟩ := wlb_box wr (NU k) (BI k) (SC k) (SG k)
          obtain ⟨p0, p1, p2, p3⟩ := hwc _ (Below.refl _ _)
          have hB2 := Lib.hid (hu.out.trans (hw0.mono (by have := hz.out; have := hu.out.size; omega)))
          have mm := hcs.out W (hu.out.trans (hw0.mono (by have := hz.out; have := hu.out.size; omega)))
          obtain ⟨m0, m1, m2, m3⟩ := mm
          replace eW := Lib.hid eW
          have HE := Lib.hid (fun (e : NU j = NU k) => HF.out k hlk e)
          have HN := Lib.hid (fun (e : NU j ≠ NU k) i (hi : i < k + 1) => show NU j ≠ NU i from by
            by_cases e2 : i = k
            · subst e2; exact e
            · exact hN.out i (by omega))
          clear hwc
          go_upto_region 8 with (fail)
          rw [← eW.out]
          have hB3 := Lib.hid (hbV.out.trans (hB2.out.mono (by have := hz.out; have := hb.out.size; omega)))
          clear k0 k1 k2 k3 hbb' hw0 hwz hwu
          by_cases e : NU j = NU k
          · have hf := Lib.hid (HE.out e)
            clear HE HN HF HS
            have e2 : (NU j == NU k) = true := by rw [e]; simp
            clear e
            go_wp2
            go_ret
            exact ⟨by rw [hf.out]; rfl, hB3.out⟩
          · have hf := Lib.hid (HN.out e)
            clear HE HN HF HS
            go_wp2
            go_roundw
            case rel => exact ⟨k + 1, by omega, rfl, by first | rfl | go_num, hB2, hf⟩
            case measure => simp [intOf] <;> omega
        · obtain rfl : k = j := by omega
          have hS := Lib.hid (HS.out hN.out)
          go_wp2
          go_roundw
          case rel => exact ⟨k + 1, by omega, rfl, by first | rfl | go_num, hwu, hS⟩
          case measure => simp [intOf] <;> omega
    · obtain rfl : j = n := by omega
      have e := Lib.hid (show noR j NU = true from decide_eq_true hU.out)
      go_wp2
      rw [Exit.noGoto_ret]
      go_ret
      exact ⟨by rw [e.out]; rfl, hb.out⟩
set_option maxRecDepth 100000 in
set_option maxHeartbeats 8000000 in
theorem lbright (a : Option Addr) (cap n : Nat) (NU BI SC : Nat → Int) (SG : Nat → Bool) (w : World) (h : Labs w a n NU BI SC SG) (hl : n ≤ maxLen) (hc : n ≤ cap) : Calls Try.prog 51 #[.slice a n cap] w fun e w' => e = .returned (.bool (labB n NU BI SC)) ∧ Below w.heap.size w w' := by
  unfold maxLen at hl
  rcases (show n < 1 ∨ 12 < n ∨ (1 ≤ n ∧ n ≤ 12) by omega) with h1 | h1 | ⟨h1, h2⟩
  · have e : labB n NU BI SC = false := by unfold labB; rw [decide_eq_false (show ¬ 1 ≤ n by omega)]; rfl
    rw [e]
    clear e h
    obtain rfl : n = 0 := by omega
    go_enter Try.func51, Try.ntmps51
    go_wp2
    go_ret
    exact ⟨rfl, Below.refl _ _⟩
  · have e : labB n NU BI SC = false := by unfold labB; rw [decide_eq_false (show ¬ n ≤ 12 by omega)]; simp
    rw [e]
    clear e h
    have i1 : ¬ (n : Int) < 1 := by omega
    have i2 : (12 : Int) < (n : Int) := by omega
    go_enter Try.func51, Try.ntmps51
    go_wp2
    go_ret
    exact ⟨rfl, Below.refl _ _⟩
  · have RP := Lib.hid (fun u (k : Below w.heap.size w u) => lbrep a cap n NU BI SC SG u (h.below k) h2 h1 hc)
    have HH := Lib.hid h
    clear h
    have i1 : ¬ (n : Int) < 1 := by omega
    have i2 : ¬ (12 : Int) < (n : Int) := by omega
    have HB1 := Lib.hid (show labB n NU BI SC = (decide (∀ i, i < n → lbR (NU i) (BI i) (SC i) = true) && noR n NU) by unfold labB; rw [decide_eq_true h1, decide_eq_true h2]; simp)
    generalize labB n NU BI SC = q at *
    go_enter Try.func51, Try.ntmps51
    go_wp2
    go_loopw [15] (fun i v => ∃ j : Nat, j ≤ n ∧ i = .int .i64 (j : Int) ∧ Hid (Below w.heap.size w v) ∧ Hid (∀ i, i < j → lbR (NU i) (BI i) (SC i) = true)) (fun i _ => n - (intOf i).toNat)
    case atStart => exact ⟨0, by omega, rfl, Lib.hid (Below.refl _ _), Lib.hid (fun i hi => by omega)⟩
    case round =>
      obtain ⟨j, hj, rfl, hb, hU⟩ := hrel
      by_cases hlt : j < n
      · obtain ⟨b, off, ea, hbb, k0, k1, k2, k3⟩ := (HH.out.below hb.out).at hlt
        subst ea
        have j1 : (j : Int) < (n : Int) := by omega
        have j2 : IntKind.i64.wrap ((j : Int) + 1) = (j : Int) + 1 := by rw [IntKind.wrap_i64]; omega
        have RT := fun u => wright (NU j) (BI j) (SC j) (SG j) u
        have HN := Lib.hid (fun (hr : lbR (NU j) (BI j) (SC j) = true) i (hi : i < j + 1) => show lbR (NU i) (BI i) (SC i) = true from by
          by_cases e : i = j
          · subst e; exact hr
          · exact hU.out i (by omega))
        have HF := Lib.hid (fun (hr : lbR (NU j) (BI j) (SC j) = false) => show q = false from by
          rw [HB1.out, decide_eq_false (fun hh => by rw [hh j hlt] at hr; cases hr)]; rfl)
        obtain ⟨V, eV, hm0, hz, hcs⟩ := wlb_box wr (NU j) (BI j) (SC j) (SG j)
        obtain ⟨m0, m1, m2, m3⟩ := hcs _ (Below.refl _ _)
        replace eV := Lib.hid eV
        replace hm0 := Lib.hid (hb.out.trans (hm0.mono hb.out.size))
        replace hz := Lib.hid hz
        clear hcs
        cases hr : lbR (NU j) (BI j) (SC j)
        all_goals
          rw [hr] at RT HN HF
          replace RT := Lib.hid RT
          clear hr
          generalize NU j = x at *
          generalize BI j = y at *
          generalize SC j = z at *
          generalize SG j = s at *
          go_upto_region 6 with (fail)
          rw [← eV.out]
          go_wp2_with (go_at_call 63; refine (RT.out _).mono ?_; rintro e w1 ⟨rfl, hb1⟩)
        · have e := HF.out trivial
          go_wp2
          go_ret
          exact ⟨ret_bool e.symm, hm0.out.trans (hb1.mono hm0.out.size)⟩
        · have e := Lib.hid (HN.out trivial)
          go_wp2
          go_roundw
          case rel => exact ⟨j + 1, by omega, by first | rfl | go_num, Lib.hid (hm0.out.trans (hb1.mono hm0.out.size)), e⟩
          case measure => simp [intOf] <;> omega
      · obtain rfl : j = n := by omega
        have e := HB1.out
        rw [decide_eq_true hU.out, Bool.true_and] at e
        have RPn := Lib.hid (RP.out _ hb.out)
        go_wp2_with (go_at_call 64; refine (RPn.out).mono ?_; rintro e w1 ⟨rfl, hb1⟩)
        go_ret
        exact ⟨ret_bool (by rw [e]), hb.out.trans (hb1.mono hb.out.size)⟩
/-- The eleven labels. -/
def stNu : Nat → Int := fun i => [131, 132, 138, 134, 133, 136, 137, 139, 145, 205, 206].getD i 0
def stBi : Nat → Int := fun i => [18, 18, 18, 18, 15, 18, 18, 18, 18, 18, 16].getD i 0
def stSc : Nat → Int := fun i => [16, 16, 1, 1, 1, 1, 4, 4, 1, 1, 1].getD i 0
def stSg : Nat → Bool := fun i => [true, true, true, false, false, false, false, false, true, false, false].getD i false
def stCs : Array Value := #[.int .i64 131, .int .i64 18, .int .i64 16, .bool true, .int .i64 132, .int .i64 18, .int .i64 16, .bool true, .int .i64 138, .int .i64 18, .int .i64 1, .bool true, .int .i64 134, .int .i64 18, .int .i64 1, .bool false, .int .i64 133, .int .i64 15, .int .i64 1, .bool false, .int .i64 136, .int .i64 18, .int .i64 1, .bool false, .int .i64 137, .int .i64 18, .int .i64 4, .bool false, .int .i64 139, .int .i64 18, .int .i64 4, .bool false, .int .i64 145, .int .i64 18, .int .i64 1, .bool true, .int .i64 205, .int .i64 18, .int .i64 1, .bool false, .int .i64 206, .int .i64 16, .int .i64 1, .bool false]
set_option maxRecDepth 100000 in
set_option maxHeartbeats 8000000 in
theorem lbstd (w : World) : Calls Try.prog 52 #[] w fun e w' => e = .returned (.slice (some ⟨w.heap.size, 0, none⟩) 11 11) ∧ Below w.heap.size w w' ∧ Labs w' (some ⟨w.heap.size, 0, none⟩) 11 stNu stBi stSc stSg := by
  obtain ⟨V, eV, hb0, hg⟩ : ∃ V, V = w.alloc (.cells stCs 60) ∧ Below w.heap.size w V ∧ V.heap[w.heap.size]? = some (.cells stCs 60 (0, 0)) := ⟨_, rfl, (by repeat (first | exact Below.refl _ _ | assumption | apply Below.drew | apply below_drewN | (refine Below.alloc ?_ (by first | exact Nat.le_refl _ | omega | (simp <;> omega)) _) | (refine Below.setCell ?_ (by first | exact Nat.le_refl _ | omega | (simp <;> omega)) _))), Go.heap_alloc_new _ _⟩
  go_enter Try.func52, Try.ntmps52
  go_wp2
  change bodyPost _ _ _ _ _ (w.alloc (.cells stCs 60))
  rw [← eV]
  go_ret
  refine ⟨rfl, hb0, .inr ⟨w.heap.size, 0, rfl, ?_, fun i hi => ?_⟩⟩
  · rcases Nat.lt_or_ge w.heap.size V.heap.size with q | q
    · exact q
    · rw [Array.getElem?_eq_none q] at hg; cases hg
  · rw [cell_of_row _ _ _ _ _ _ hg, cell_of_row _ _ _ _ _ _ hg, cell_of_row _ _ _ _ _ _ hg, cell_of_row _ _ _ _ _ _ hg]
    rcases (show i = 0 ∨ i = 1 ∨ i = 2 ∨ i = 3 ∨ i = 4 ∨ i = 5 ∨ i = 6 ∨ i = 7 ∨ i = 8 ∨ i = 9 ∨ i = 10 by omega) with rfl | rfl | rfl | rfl | rfl | rfl | rfl | rfl | rfl | rfl | rfl <;> exact ⟨rfl, rfl, rfl, rfl⟩
set_option maxRecDepth 100000 in
set_option maxHeartbeats 8000000 in
theorem lives30 (w : World) : Calls Try.prog 23 #[] w fun e w' => e = .returned (.bool true) ∧ Below w.heap.size w w' := by
  go_enter Try.func23, Try.ntmps23
  go_wp2_with fail
  refine (lbstd _).mono ?_
  rintro e w1 ⟨rfl, hb1, hL⟩
  go_wp2_with fail
  refine (lbright _ 11 11 stNu stBi stSc stSg _ hL (by decide) (by decide)).mono ?_
  rintro e w2 ⟨rfl, hb2⟩
  rw [show labB 11 stNu stBi stSc = true by decide +kernel]
  have hb2 := hb1.trans (hb2.mono hb1.size)
  go_wp2_with fail
  refine (lbstd _).mono ?_
  rintro e w3 ⟨rfl, hb3, -⟩
  have hb3 := hb2.trans (hb3.mono hb2.size)
  go_wp2_with fail
  refine (lbstd _).mono ?_
  rintro e w4 ⟨rfl, hb4, hL4⟩
  have hb4 := hb3.trans (hb4.mono hb3.size)
  obtain ⟨b, off, ea, hbb, k0, k1, k2, k3⟩ := hL4.at (show 0 < 11 by decide)
  injection ea with ea
  injection ea with e1 e2
  subst e1 e2
  rw [show stNu 0 = 131 by decide] at k0
  go_wp2
  go_ret
  exact ⟨rfl, hb4⟩
end Go.Proofs.Ytffhhdjcodapjaa
