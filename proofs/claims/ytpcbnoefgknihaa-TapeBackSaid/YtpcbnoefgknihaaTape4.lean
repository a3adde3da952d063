/- Blocks of the tape: plain; what fits; are two rows of bytes the same; walked. -/
import Derived.Test.YtpcbnoefgknihaaTape3
import Derived.Test.YtpcbnoefgknihaaMixg
namespace Go.Proofs.Ytpcbnoefgknihaa
open Go.ChangeShapes Go.WideShapes Go.ChangeAt Go.RowKit
set_option linter.unusedVariables false
set_option linter.unusedSimpArgs false
/-- A row's numbers less those of the row before. -/
def rwB (P R : List Int) : Nat → List Int
  | 0 => []
  | k + 1 => rwB P R k ++ vn (fo (IntKind.i64.wrap (R.getD k 0 - P.getD k 0)))
def pvR (width : Nat) (Z : List (List Int)) : Nat → List Int
  | 0 => List.replicate width 0
  | i + 1 => Z.getD i []
def blB (width : Nat) (Z : List (List Int)) : Nat → List Int
  | 0 => []
  | i + 1 => blB width Z i ++ rwB (pvR width Z i) (Z.getD i []) (Z.getD i []).length
def hdB (Z : List (List Int)) : List Int := [90, (Z.length : Int) % 256]
def bdB (width : Nat) (Z : List (List Int)) : List Int := hdB Z ++ blB width Z Z.length
def bkB (width : Nat) (Z : List (List Int)) : List Int := bdB width Z ++ [((crI (bdB width Z) / 256 : Nat) : Int), ((crI (bdB width Z) % 256 : Nat) : Int)]
def fitB (width : Int) (Z : List (List Int)) : Bool := decide (∀ i, i < Z.length → ((Z.getD i []).length : Int) = width)
def BYL (l : List Int) : Prop := ∀ b ∈ l, 0 ≤ b ∧ b < 256
theorem BYL.app {l m : List Int} (h : BYL l) (g : BYL m) : BYL (l ++ m) := fun b hb => by
  rcases List.mem_append.1 hb with q | q
  · exact h b q
  · exact g b q
theorem BYL.by8 {l : List Int} (h : BYL l) : BY8 l := fun i hi => h _ (by simp [List.getD, hi])
theorem by8_byl {l : List Int} (h : BY8 l) : BYL l := fun b hb => by
  obtain ⟨i, hi, rfl⟩ := List.getElem_of_mem hb
  have := h i hi
  simpa [List.getD, hi] using this
theorem vnF_byl : ∀ (f u : Nat), u < P128 f → BYL (vnF f u)
  | 0, u, h => by
    unfold P128 at h
    intro b hb
    simp [vnF] at hb
    omega
  | f + 1, u, h => by
    unfold vnF
    split
    · intro b hb
      simp at hb
      omega
    · have := vnF_byl f (u / 128) (P128_div h)
      intro b hb
      rcases List.mem_cons.1 hb with q | q
      · omega
      · exact this b q
theorem vn_byl {u : Nat} (h : u < 18446744073709551616) : BYL (vn u) := vnF_byl 9 u (by unfold P128; omega)
theorem i64_within (n : Int) : -9223372036854775808 ≤ IntKind.i64.wrap n ∧ IntKind.i64.wrap n ≤ 9223372036854775807 := by rw [IntKind.wrap_i64]; omega
theorem num_byl (n : Int) : BYL (vn (fo (IntKind.i64.wrap n))) := vn_byl (fo_lt (i64_within n).1 (i64_within n).2)
theorem vn_len (u : Nat) : (vn u).length ≤ 10 ∧ 1 ≤ (vn u).length := vnF_len 9 u
theorem rwB_byl (P R : List Int) : ∀ k, BYL (rwB P R k)
  | 0 => fun b hb => by cases hb
  | k + 1 => (rwB_byl P R k).app (num_byl _)
theorem rwB_len (P R : List Int) : ∀ k, (rwB P R k).length ≤ 10 * k
  | 0 => by simp [rwB]
  | k + 1 => by
    have := rwB_len P R k
    have := (vn_len (fo (IntKind.i64.wrap (R.getD k 0 - P.getD k 0)))).1
    simp only [rwB, List.length_append]
    omega
theorem blB_byl (width : Nat) (Z : List (List Int)) : ∀ i, BYL (blB width Z i)
  | 0 => fun b hb => by cases hb
  | i + 1 => (blB_byl width Z i).app (rwB_byl _ _ _)
theorem blB_len {width m : Nat} {Z : List (List Int)} (hm : ∀ i, i < Z.length → (Z.getD i []).length ≤ m) : ∀ i, i ≤ Z.length → (blB width Z i).length ≤ 10 * m * i
  | 0, _ => by simp [blB]
  | i + 1, h => by
    have h1 := blB_len (width := width) hm i (by omega)
    have h2 := rwB_len (pvR width Z i) (Z.getD i []) (Z.getD i []).length
    have h3 := hm i (by omega)
    simp only [blB, List.length_append]
    rw [Nat.mul_add]
    omega
theorem hdB_byl (Z : List (List Int)) : BYL (hdB Z) := fun b hb => by
  simp [hdB] at hb
  omega
theorem bdB_byl (width : Nat) (Z : List (List Int)) : BYL (bdB width Z) := (hdB_byl Z).app (blB_byl _ _ _)
set_option maxRecDepth 100000 in
set_option maxHeartbeats 4000000 in
theorem rsame12 (a b : Option Addr) (ca cb : Nat) (l : List Int) (w : World) (hr : RowIs .u8 w a l) (hs : RowIs .u8 w b l) (hL : l.length ≤ maxLen) :
    Calls Try.prog 47 #[.slice a l.length ca, .slice b l.length cb] w fun e w' => e = .returned (.bool true) ∧ Below w.heap.size w w' := by
  have hL' : (l.length : Int) ≤ 9223372036854775807 := by unfold maxLen at hL; omega
  have RA := Lib.hid (fun u (h : Below w.heap.size w u) => hr.below h)
  have RB := Lib.hid (fun u (h : Below w.heap.size w u) => hs.below h)
  clear hr hs
  go_enter Try.func47, Try.ntmps47
  go_wp2_with fail
  go_loopw [5] (fun i v => ∃ k : Nat, k ≤ l.length ∧ i = .int .i64 (k : Int) ∧ Below w.heap.size w v) (fun i _ => l.length - (intOf i).toNat)
  case atStart => exact ⟨0, by omega, rfl, Below.refl _ _⟩
  case round =>
    obtain ⟨k, hk, rfl, hb⟩ := hrel
    by_cases hlt : k < l.length
    · obtain ⟨b1, o1, rfl, -, c1⟩ := (RA.out _ hb).at hlt
      obtain ⟨b2, o2, rfl, -, c2⟩ := (RB.out _ hb).at hlt
      have h1 : (k : Int) < (l.length : Int) := by omega
      have h0 : 0 ≤ (k : Int) := by omega
      generalize l.getD k 0 = x at *
      have d1 : (x != x) = false := by simp
      go_wp2_with fail
      refine region_moves (fun u => u.cell? ⟨b1, o1 + k, none⟩ = some (.int .u8 x) ∧ u.cell? ⟨b2, o2 + k, none⟩ = some (.int .u8 x)) [] [(.free, 0), (.free, 1), (.free, 2), (.take, 3), (.free, 4), (.free, 5), (.free, 6), (.take, 7), (.free, 8)] _ (by kernel_rfl) (by kernel_rfl) (by kernel_rfl) (by kernel_rfl) (by decide) rfl (fun _ _ _ _ _ h => h) ?_
      simp only [List.filterMap_cons, List.filterMap_nil, List.getElem?_toArray, List.getElem?_cons_zero, List.getElem?_cons_succ, Option.map_some]
      iterate 3
        first
          | (refine mv_free ?_ (Or.inl ⟨by rfl, ?_⟩) (⟨c1, c2⟩) ?_
             rotate_left 1
             · intro u
               go_simp
               try simp only [d1]
               try simp only [d2]
               try simp only [d3]
               try with_reducible rfl
             simp only [Act.put, List.setIfInBounds_toArray, List.set_cons_zero, List.set_cons_succ])
          | (refine mv_free _ (Or.inr ⟨by rfl, rfl⟩) (⟨c1, c2⟩) ?_
             simp only [Act.put, List.setIfInBounds_toArray, List.set_cons_zero, List.set_cons_succ])
      iterate 1
        first
          | (refine mv_take ?_ (Or.inl ⟨by rfl, ?_⟩) (⟨c1, c2⟩) ?_
             rotate_left 1
             · intro u hu
               (try dsimp only at hu)
               go_simp
               try with_reducible rfl
             simp only [Act.put, List.setIfInBounds_toArray, List.set_cons_zero, List.set_cons_succ])
          | (refine mv_take _ (Or.inr ⟨by rfl, rfl⟩) (⟨c1, c2⟩) ?_
             simp only [Act.put, List.setIfInBounds_toArray, List.set_cons_zero, List.set_cons_succ])
      iterate 3
        first
          | (refine mv_free ?_ (Or.inl ⟨by rfl, ?_⟩) (⟨c1, c2⟩) ?_
             rotate_left 1
             · intro u
               go_simp
               try simp only [d1]
               try simp only [d2]
               try simp only [d3]
               try with_reducible rfl
             simp only [Act.put, List.setIfInBounds_toArray, List.set_cons_zero, List.set_cons_succ])
          | (refine mv_free _ (Or.inr ⟨by rfl, rfl⟩) (⟨c1, c2⟩) ?_
             simp only [Act.put, List.setIfInBounds_toArray, List.set_cons_zero, List.set_cons_succ])
      iterate 1
        first
          | (refine mv_take ?_ (Or.inl ⟨by rfl, ?_⟩) (⟨c1, c2⟩) ?_
             rotate_left 1
             · intro u hu
               (try dsimp only at hu)
               go_simp
               try with_reducible rfl
             simp only [Act.put, List.setIfInBounds_toArray, List.set_cons_zero, List.set_cons_succ])
          | (refine mv_take _ (Or.inr ⟨by rfl, rfl⟩) (⟨c1, c2⟩) ?_
             simp only [Act.put, List.setIfInBounds_toArray, List.set_cons_zero, List.set_cons_succ])
      iterate 1
        first
          | (refine mv_free ?_ (Or.inl ⟨by rfl, ?_⟩) (⟨c1, c2⟩) ?_
             rotate_left 1
             · intro u
               go_simp
               try simp only [d1]
               try simp only [d2]
               try simp only [d3]
               try with_reducible rfl
             simp only [Act.put, List.setIfInBounds_toArray, List.set_cons_zero, List.set_cons_succ])
          | (refine mv_free _ (Or.inr ⟨by rfl, rfl⟩) (⟨c1, c2⟩) ?_
             simp only [Act.put, List.setIfInBounds_toArray, List.set_cons_zero, List.set_cons_succ])
      refine mv_done ?_
      go_wp2
      go_roundw
      case rel => exact ⟨k + 1, by omega, by go_num, hb.drew⟩
      case measure => simp [intOf]; omega
    · have hge : (l.length : Int) ≤ (k : Int) := by omega
      go_wp2
      go_ret
      exact ⟨rfl, hb⟩
/-- Are two rows of bytes the same? -/
def smB (l m : List Int) : Bool := decide (l = m)
set_option maxRecDepth 100000 in
set_option maxHeartbeats 4000000 in
theorem rbytes (a b : Option Addr) (ca cb : Nat) (l : List Int) (w : World) (hr : RowIs .u8 w a l) (hs : RowIs .u8 w b l) (hL : l.length ≤ maxLen) :
    Calls Try.prog 19 #[.slice a l.length ca, .slice b l.length cb] w fun e w' => e = .returned (.bool true) ∧ Below w.heap.size w w' := by
  have S := Lib.hid (rsame12 a b ca cb l w hr hs hL)
  clear hr hs
  go_enter Try.func19, Try.ntmps19
  go_wp2_with fail
  refine S.out.mono ?_
  rintro e w1 ⟨rfl, hb⟩
  go_wp2
  go_ret
  exact ⟨rfl, hb⟩
set_option maxRecDepth 100000 in
set_option maxHeartbeats 4000000 in
theorem tfits (width : Int) (a : Option Addr) (A : Nat → Option Addr) (C : Nat → Nat) (Z : List (List Int)) (cap : Nat) (w : World) (h : GridIs .i64 w a A C Z) (hZ : Z.length ≤ maxLen) (hR : ∀ i, i < Z.length → (Z.getD i []).length ≤ maxLen) :
    Calls Try.prog 49 #[.int .i64 width, .slice a Z.length cap] w fun e w' => e = .returned (.bool (fitB width Z)) ∧ w = w' := by
  have hL' : (Z.length : Int) ≤ 9223372036854775807 := by unfold maxLen at hZ; omega
  obtain ⟨FB, hFB⟩ : ∃ b, fitB width Z = b := ⟨_, rfl⟩
  have hfb := Lib.hid hFB
  rw [hFB]
  replace hR := Lib.hid hR
  go_enter Try.func49, Try.ntmps49
  go_wp2_with fail
  go_loopw [9] (fun i v => ∃ k : Nat, k ≤ Z.length ∧ i = .int .i64 (k : Int) ∧ w = v ∧ Hid (∀ j, j < k → ((Z.getD j []).length : Int) = width)) (fun i _ => Z.length - (intOf i).toNat)
  case atStart => exact ⟨0, by omega, rfl, rfl, Lib.hid (fun j hj => by omega)⟩
  case round =>
    obtain ⟨k, hk, rfl, rfl, hA⟩ := hrel
    by_cases hlt : k < Z.length
    · obtain ⟨b, off, rfl, -, hc⟩ := h.at hlt
      have h1 : (k : Int) < (Z.length : Int) := by omega
      have h0 : 0 ≤ (k : Int) := by omega
      have hr := hR.out k hlt
      generalize hm : (Z.getD k []).length = m at *
      have hm' : (m : Int) ≤ 9223372036854775807 := by unfold maxLen at hr; omega
      clear hr
      by_cases e : (m : Int) = width
      · have d1 : ((m : Int) == width) = true := by simp [e]
        have d2 : ((m : Int) != width) = false := by simp [e]
        have hA2 := Lib.hid (show ∀ j, j < k + 1 → ((Z.getD j []).length : Int) = width from fun j hj => by
          by_cases q : j = k
          · subst q; rw [hm]; exact e
          · exact hA.out j (by omega))
        clear e hm hA
        go_wp2
        go_roundw
        case rel => exact ⟨k + 1, by omega, by go_num, by first | rfl | trivial, hA2⟩
        case measure => simp [intOf]; omega
      · have d1 : ((m : Int) == width) = false := by simp [e]
        have d2 : ((m : Int) != width) = true := by simp [e]
        have hf : FB = false := by
          rw [← hfb.out]
          unfold fitB
          refine decide_eq_false fun q => e ?_
          rw [← hm]; exact q k hlt
        subst hf
        clear e hm hA
        go_wp2
        go_ret
        exact ⟨rfl, rfl⟩
    · have hge : (Z.length : Int) ≤ (k : Int) := by omega
      have hf : FB = true := by
        rw [← hfb.out]
        unfold fitB
        exact decide_eq_true fun i hi => hA.out i (by omega)
      subst hf
      go_wp2
      go_ret
      exact ⟨rfl, rfl⟩
set_option maxRecDepth 100000 in
set_option maxHeartbeats 4000000 in
theorem rfits (width : Int) (a : Option Addr) (A : Nat → Option Addr) (C : Nat → Nat) (Z : List (List Int)) (cap : Nat) (w : World) (h : GridIs .i64 w a A C Z) (hZ : Z.length ≤ maxLen) (hR : ∀ i, i < Z.length → (Z.getD i []).length ≤ maxLen) :
    Calls Try.prog 24 #[.int .i64 width, .slice a Z.length cap] w fun e w' => e = .returned (.bool (fitB width Z)) ∧ w = w' := by
  have hL' : (Z.length : Int) ≤ 9223372036854775807 := by unfold maxLen at hZ; omega
  obtain ⟨FB, hFB⟩ : ∃ b, fitB width Z = b := ⟨_, rfl⟩
  have hfb := Lib.hid hFB
  rw [hFB]
  replace hR := Lib.hid hR
  go_enter Try.func24, Try.ntmps24
  go_wp2_with fail
  go_loopw [5] (fun i v => ∃ k : Nat, k ≤ Z.length ∧ i = .int .i64 (k : Int) ∧ w = v ∧ Hid (∀ j, j < k → ((Z.getD j []).length : Int) = width)) (fun i _ => Z.length - (intOf i).toNat)
  case atStart => exact ⟨0, by omega, rfl, rfl, Lib.hid (fun j hj => by omega)⟩
  case round =>
    obtain ⟨k, hk, rfl, rfl, hA⟩ := hrel
    by_cases hlt : k < Z.length
    · obtain ⟨b, off, rfl, -, hc⟩ := h.at hlt
      have h1 : (k : Int) < (Z.length : Int) := by omega
      have h0 : 0 ≤ (k : Int) := by omega
      have hr := hR.out k hlt
      generalize hm : (Z.getD k []).length = m at *
      have hm' : (m : Int) ≤ 9223372036854775807 := by unfold maxLen at hr; omega
      clear hr
      by_cases e : (m : Int) = width
      · have d1 : ((m : Int) == width) = true := by simp [e]
        have d2 : ((m : Int) != width) = false := by simp [e]
        have hA2 := Lib.hid (show ∀ j, j < k + 1 → ((Z.getD j []).length : Int) = width from fun j hj => by
          by_cases q : j = k
          · subst q; rw [hm]; exact e
          · exact hA.out j (by omega))
        clear e hm hA
        go_wp2
        go_roundw
        case rel => exact ⟨k + 1, by omega, by go_num, by first | rfl | trivial, hA2⟩
        case measure => simp [intOf]; omega
      · have d1 : ((m : Int) == width) = false := by simp [e]
        have d2 : ((m : Int) != width) = true := by simp [e]
        have hf : FB = false := by
          rw [← hfb.out]
          unfold fitB
          refine decide_eq_false fun q => e ?_
          rw [← hm]; exact q k hlt
        subst hf
        clear e hm hA
        go_wp2
        go_ret
        exact ⟨rfl, rfl⟩
    · have hge : (Z.length : Int) ≤ (k : Int) := by omega
      have hf : FB = true := by
        rw [← hfb.out]
        unfold fitB
        exact decide_eq_true fun i hi => hA.out i (by omega)
      subst hf
      go_wp2
      go_ret
      exact ⟨rfl, rfl⟩
def grtB (Z : List (List Int)) : Bool := decide (1100 < Z.length) || decide (∃ i, i < Z.length ∧ i < 1100 ∧ 20 < (Z.getD i []).length)
set_option maxRecDepth 100000 in
set_option maxHeartbeats 4000000 in
theorem lgreat (a : Option Addr) (A : Nat → Option Addr) (C : Nat → Nat) (Z : List (List Int)) (cap : Nat) (w : World) (h : GridIs .i64 w a A C Z) (hZ : Z.length ≤ maxLen) (hR : ∀ i, i < Z.length → (Z.getD i []).length ≤ maxLen) :
    Calls Try.prog 22 #[.slice a Z.length cap] w fun e w' => e = .returned (.bool (grtB Z)) ∧ w = w' := by
  have hL' : (Z.length : Int) ≤ 9223372036854775807 := by unfold maxLen at hZ; omega
  obtain ⟨FB, hFB⟩ : ∃ b, grtB Z = b := ⟨_, rfl⟩
  have hfb := Lib.hid hFB
  rw [hFB]
  replace hR := Lib.hid hR
  go_enter Try.func22, Try.ntmps22
  go_wp2_with fail
  go_loopw [3] (fun i v => ∃ k : Nat, k ≤ Z.length ∧ k ≤ 1100 ∧ i = .int .i64 (k : Int) ∧ w = v ∧ Hid (∀ j, j < k → (Z.getD j []).length ≤ 20)) (fun i _ => Z.length - (intOf i).toNat)
  case atStart => exact ⟨0, by omega, by omega, rfl, rfl, Lib.hid (fun j hj => by omega)⟩
  case round =>
    obtain ⟨k, hk, hk2, rfl, rfl, hA⟩ := hrel
    by_cases hlt : k < Z.length ∧ k < 1100
    · obtain ⟨b, off, rfl, -, hc⟩ := h.at hlt.1
      have h1 : (k : Int) < (Z.length : Int) := by omega
      have h2 : (k : Int) < 1100 := by omega
      have h0 : 0 ≤ (k : Int) := by omega
      have hr := hR.out k hlt.1
      generalize hm : (Z.getD k []).length = m at *
      have hm' : (m : Int) ≤ 9223372036854775807 := by unfold maxLen at hr; omega
      clear hr
      by_cases e : m ≤ 20
      · have d1 : ¬ (20 : Int) < (m : Int) := by omega
        have hA2 := Lib.hid (show ∀ j, j < k + 1 → (Z.getD j []).length ≤ 20 from fun j hj => by
          by_cases q : j = k
          · subst q; rw [hm]; exact e
          · exact hA.out j (by omega))
        clear e hm hA
        go_wp2
        go_roundw
        case rel => exact ⟨k + 1, by omega, by omega, by go_num, by first | rfl | trivial, hA2⟩
        case measure => simp [intOf]; omega
      · have d1 : (20 : Int) < (m : Int) := by omega
        have hf : FB = true := by
          rw [← hfb.out]
          unfold grtB
          rw [decide_eq_true (show ∃ i, i < Z.length ∧ i < 1100 ∧ 20 < (Z.getD i []).length from ⟨k, hlt.1, hlt.2, by omega⟩), Bool.or_true]
        subst hf
        clear e hm hA
        go_wp2
        go_ret
        exact ⟨rfl, rfl⟩
    · have hf : FB = decide (1100 < Z.length) := by
        rw [← hfb.out]
        unfold grtB
        by_cases e : 1100 < Z.length
        · rw [decide_eq_true e, Bool.true_or]
        · rw [decide_eq_false e, Bool.false_or]
          exact decide_eq_false (fun ⟨i, q1, q2, q3⟩ => by have := hA.out i (by omega); omega)
      have he : (FB = true ∧ (k : Int) = 1100 ∧ (1100 : Int) < (Z.length : Int)) ∨ (FB = false ∧ ¬ (k : Int) < (Z.length : Int) ∧ ¬ (1100 : Int) < (Z.length : Int)) := by
        by_cases e : 1100 < Z.length
        · exact .inl ⟨by rw [hf, decide_eq_true e], by omega, by omega⟩
        · exact .inr ⟨by rw [hf, decide_eq_false e], by omega, by omega⟩
      clear hf hA hlt hk hk2
      rcases he with ⟨rfl, e1, e2⟩ | ⟨rfl, e1, e2⟩
      · have d1 : (k : Int) < (Z.length : Int) := by omega
        have d2 : ¬ (k : Int) < 1100 := by omega
        clear e1
        go_wp2
        go_ret
        exact ⟨rfl, rfl⟩
      · go_wp2
        go_ret
        exact ⟨rfl, rfl⟩
end Go.Proofs.Ytpcbnoefgknihaa
