/- Names for every input: Find, Name, the law's table, Any; walked. -/
import Derived.Test.YtaijkngdelolgaaDisc5
import Derived.Test.YtaijkngdelolgaaOs
namespace Go.Proofs.Ytaijkngdelolgaa
open Go.ChangeShapes Go.WideShapes Go.ChangeAt Go.RowKit
set_option linter.unusedVariables false
set_option linter.unusedSimpArgs false
set_option maxRecDepth 100000 in
set_option maxHeartbeats 8000000 in
theorem dfind_none (s : ByteArray) (hn : ∀ j, j < 19 → nmB j ≠ s) (w : World) : Calls Try.prog 15 #[.string s] w fun e w' => e = .returned (.tuple #[.int .i64 0, .bool false]) ∧ Below w.heap.size w w' := by
  have NS := Lib.hid (fun u => dnames u)
  have IX := fun j hj u => nm_index j hj u
  generalize nmC = C at *
  go_enter Try.func15, Try.ntmps15
  go_wp2_with fail
  refine (NS.out _).mono ?_
  rintro e w1 ⟨rfl, hb1⟩
  replace hb1 := Lib.hid hb1
  go_wp2_with fail
  go_loopw [7] (fun i v => ∃ j : Nat, j ≤ 19 ∧ i = .int .i64 (j : Int) ∧ v = w1) (fun i _ => 19 - (intOf i).toNat)
  case atStart => exact ⟨0, by omega, rfl, rfl⟩
  case round =>
    obtain ⟨j, hj, rfl, rfl⟩ := hrel
    by_cases hlt : j < 19
    · have i1 : (j : Int) < 19 := by omega
      have i2 : IntKind.i64.wrap ((j : Int) + 1) = (j : Int) + 1 := by rw [IntKind.wrap_i64]; omega
      have IXj := IX j (by omega)
      clear IX
      have hne := hn j (by omega)
      clear hn
      generalize nmB j = z at *
      have h2 : (z.toList == s.toList) = false := by
        rw [beq_eq_false_iff_ne]
        exact fun e => hne (bytes_inj e)
      go_wp2
      go_roundw
      case rel => exact ⟨j + 1, by omega, by first | rfl | go_num, by first | rfl | trivial⟩
      case measure => simp [intOf] <;> omega
    · obtain rfl : j = 19 := by omega
      clear IX hn
      go_wp2
      go_ret2
      exact ⟨rfl, hb1.out⟩
set_option maxRecDepth 100000 in
set_option maxHeartbeats 8000000 in
theorem dname_no (i : Int) (h : ¬ (0 ≤ i ∧ i < 19)) (w : World) : Calls Try.prog 17 #[.int .i64 i] w fun e w' => e = .returned (.string ⟨#[]⟩) ∧ Below w.heap.size w w' := by
  rcases (show i < 0 ∨ 19 ≤ i from by omega) with h1 | h1
  · go_enter Try.func17, Try.ntmps17
    go_wp2
    go_ret
    exact ⟨rfl, Below.refl _ _⟩
  · have h2 : ¬ i < 0 := by omega
    go_enter Try.func17, Try.ntmps17
    go_wp2
    go_ret
    exact ⟨rfl, Below.refl _ _⟩
set_option maxRecDepth 100000 in
set_option maxHeartbeats 8000000 in
theorem dtable (w : World) : Calls Try.prog 14 #[] w fun e w' => e = .returned (.slice (some ⟨w.heap.size, 0, none⟩) 19 19) ∧ Below w.heap.size w w' ∧ w'.heap[w.heap.size]? = some (.cells nmC 9 (0, 0)) := by
  obtain ⟨V, eV, hb0, hg⟩ : ∃ V, V = w.alloc (.cells nmC 9) ∧ Below w.heap.size w V ∧ V.heap[w.heap.size]? = some (.cells nmC 9 (0, 0)) := ⟨_, rfl, (by repeat (first | exact Below.refl _ _ | assumption | apply Below.drew | apply below_drewN | (refine Below.alloc ?_ (by first | exact Nat.le_refl _ | omega | (simp <;> omega)) _) | (refine Below.setCell ?_ (by first | exact Nat.le_refl _ | omega | (simp <;> omega)) _))), alloc_get _ _⟩
  go_enter Try.func14, Try.ntmps14
  go_wp2
  change bodyPost _ _ _ _ _ (w.alloc (.cells nmC 9))
  rw [← eV]
  go_ret
  exact ⟨rfl, hb0, hg⟩
/-- Is one of these set? -/
def anB (M : Nat → Bool) (L : List Int) : Bool := L.any (fun i => decide (0 ≤ i) && decide (i < 19) && M i.toNat)
theorem anB_step {M : Nat → Bool} {L : List Int} {k : Nat} (h : k < L.length) : anB M (L.take (k + 1)) = (anB M (L.take k) || (decide (0 ≤ L.getD k 0) && decide (L.getD k 0 < 19) && M (L.getD k 0).toNat)) := by
  unfold anB
  rw [take_snoc h, List.any_append]
  simp
theorem anB_hit {M : Nat → Bool} {L : List Int} {k : Nat} (h : k < L.length) (h0 : 0 ≤ L.getD k 0) (h1 : L.getD k 0 < 19) (h2 : M (L.getD k 0).toNat = true) : anB M L = true := by
  have e : anB M (L.take (k + 1)) = true := by rw [anB_step h, decide_eq_true h0, decide_eq_true h1, h2]; simp
  unfold anB at e ⊢
  rw [List.any_eq_true] at e ⊢
  obtain ⟨x, hx, hy⟩ := e
  exact ⟨x, List.mem_of_mem_take hx, hy⟩
set_option maxRecDepth 100000 in
set_option maxHeartbeats 8000000 in
theorem dany (M : Nat → Bool) (a : Option Addr) (cap : Nat) (L : List Int) (w : World) (hr : RowIs .i64 w a L) (hl : L.length ≤ maxLen) : Calls Try.prog 18 #[.agg #[.bool (M 0), .bool (M 1), .bool (M 2), .bool (M 3), .bool (M 4), .bool (M 5), .bool (M 6), .bool (M 7), .bool (M 8), .bool (M 9), .bool (M 10), .bool (M 11), .bool (M 12), .bool (M 13), .bool (M 14), .bool (M 15), .bool (M 16), .bool (M 17), .bool (M 18)], .slice a L.length cap] w fun e w' => e = .returned (.bool (anB M L)) ∧ Below w.heap.size w w' := by
  obtain ⟨V, eV, hb0, hgV⟩ : ∃ V, V = w.alloc (.cells #[.bool (M 0), .bool (M 1), .bool (M 2), .bool (M 3), .bool (M 4), .bool (M 5), .bool (M 6), .bool (M 7), .bool (M 8), .bool (M 9), .bool (M 10), .bool (M 11), .bool (M 12), .bool (M 13), .bool (M 14), .bool (M 15), .bool (M 16), .bool (M 17), .bool (M 18)] 23) ∧ Below w.heap.size w V ∧ V.heap[w.heap.size]? = some (.cells (mkC M) 23 (0, 0)) := ⟨_, rfl, (by repeat (first | exact Below.refl _ _ | assumption | apply Below.drew | apply below_drewN | (refine Below.alloc ?_ (by first | exact Nat.le_refl _ | omega | (simp <;> omega)) _) | (refine Below.setCell ?_ (by first | exact Nat.le_refl _ | omega | (simp <;> omega)) _))), alloc_get _ _⟩
  have hr2 := Lib.hid (hr.below hb0)
  replace hb0 := Lib.hid hb0
  unfold maxLen at hl
  clear hr
  go_enter Try.func18, Try.ntmps18
  go_upto_region 1 with (fail)
  rw [← eV]
  clear eV
  obtain ⟨q, hq⟩ : ∃ q, q = w.heap.size := ⟨_, rfl⟩
  rw [← hq] at hgV ⊢
  replace hq := Lib.hid hq
  go_wp2_with fail
  go_loopw [9] (fun i v => ∃ k : Nat, k ≤ L.length ∧ i = .int .i64 (k : Int) ∧ v = V ∧ Hid (anB M (L.take k) = false)) (fun i _ => L.length - (intOf i).toNat)
  case atStart => exact ⟨0, by omega, rfl, rfl, Lib.hid rfl⟩
  case round =>
    obtain ⟨k, hk, rfl, rfl, hN⟩ := hrel
    by_cases hlt : k < L.length
    · obtain ⟨b, off, ea, hbb, hc⟩ := hr2.out.at hlt
      subst ea
      have i0 : 0 ≤ (k : Int) := by omega
      have i1 : (k : Int) < (L.length : Int) := by omega
      have i2 : IntKind.i64.wrap ((k : Int) + 1) = (k : Int) + 1 := by rw [IntKind.wrap_i64]; omega
      have st := anB_step (M := M) hlt
      have ht := Lib.hid (anB_hit (M := M) hlt)
      rw [hN.out] at st
      generalize L.getD k 0 = x at *
      clear hbb
      rcases (show x < 0 ∨ 19 ≤ x ∨ (0 ≤ x ∧ x < 19) from by omega) with h | h | h
      · have d1 : ¬ 0 ≤ x := by omega
        have st2 := Lib.hid (show anB M (L.take (k + 1)) = false by rw [st]; simp [d1])
        clear st ht
        go_wp2
        go_roundw
        case rel => exact ⟨k + 1, by omega, by first | rfl | go_num, by first | rfl | trivial, st2⟩
        case measure => simp [intOf] <;> omega
      · have d1 : 0 ≤ x := by omega
        have d2 : ¬ x < 19 := by omega
        have st2 := Lib.hid (show anB M (L.take (k + 1)) = false by rw [st]; simp [d2])
        clear st ht
        go_wp2
        go_roundw
        case rel => exact ⟨k + 1, by omega, by first | rfl | go_num, by first | rfl | trivial, st2⟩
        case measure => simp [intOf] <;> omega
      · obtain ⟨d1, d2⟩ := h
        obtain ⟨n, rfl⟩ := Int.eq_ofNat_of_zero_le d1
        have c0 := (cell_of_row _ q n _ _ _ hgV).trans (mkC_at M n (by omega))
        rw [show ((n : Nat) : Int).toNat = n by omega] at st ht
        cases hm : M n
        · rw [hm] at c0 st
          have st2 := Lib.hid (show anB M (L.take (k + 1)) = false by rw [st]; simp)
          clear st ht hm
          go_wp2
          go_roundw
          case rel => exact ⟨k + 1, by omega, by first | rfl | go_num, by first | rfl | trivial, st2⟩
          case measure => simp [intOf] <;> omega
        · rw [hm] at c0
          have hA := Lib.hid (ht.out d1 d2 hm)
          clear st ht hm
          go_wp2
          go_ret
          exact ⟨by rw [hA.out]; rfl, hb0.out⟩
    · obtain rfl : k = L.length := by omega
      have hA := Lib.hid (show anB M L = false by have := hN.out; rwa [List.take_length] at this)
      go_wp2
      go_ret
      exact ⟨by rw [hA.out]; rfl, hb0.out⟩
end Go.Proofs.Ytaijkngdelolgaa
