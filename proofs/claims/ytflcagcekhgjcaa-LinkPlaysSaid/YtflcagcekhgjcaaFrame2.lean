/- Sum, Total; which frames may be; are two rows of bytes the same; walked. -/
import Derived.Test.YtflcagcekhgjcaaFrame1
import Derived.Test.YtflcagcekhgjcaaObj
import Derived.Test.YtflcagcekhgjcaaReg
import Derived.Deep.Cut
namespace Go.Proofs.Ytflcagcekhgjcaa
open Go.ChangeShapes Go.WideShapes Go.ChangeAt Go.RowKit
set_option linter.unusedVariables false
set_option linter.unusedSimpArgs false

set_option maxRecDepth 100000 in
set_option maxHeartbeats 4000000 in
theorem fsum (a : Option Addr) (cap : Nat) (l : List Int) (w : World) (hr : RowIs .u8 w a l) (hL : l.length ≤ maxLen) :
    Calls Try.prog 24 #[.slice a l.length cap] w fun e w' => e = .returned (.int .u8 ((256 - tot l) % 256)) ∧ w = w' := by
  have hL' : (l.length : Int) ≤ 9223372036854775807 := by unfold maxLen at hL; omega
  have hfin : tot (l.take l.length) = tot l := by rw [List.take_length]
  replace hfin := Lib.hid hfin
  go_enter Try.func24, Try.ntmps24
  go_wp2_with fail
  go_loopw [3, 8] (fun s i v => ∃ k : Nat, k ≤ l.length ∧ s = .int .u8 (tot (l.take k)) ∧ i = .int .i64 (k : Int) ∧ w = v) (fun _ i _ => l.length - (intOf i).toNat)
  case atStart => exact ⟨0, by omega, rfl, rfl, rfl⟩
  case round =>
    obtain ⟨k, hk, rfl, rfl, rfl⟩ := hrel
    have hb := tot_bd (l.take k)
    by_cases hlt : k < l.length
    · obtain ⟨b, off, rfl, -, hc⟩ := hr.at hlt
      have h1 : (k : Int) < (l.length : Int) := by omega
      have h0 : 0 ≤ (k : Int) := by omega
      have SN := Lib.hid (tot_snoc hlt)
      generalize tot (l.take k) = s at *
      generalize l.getD k 0 = x at *
      have hw : IntKind.u8.wrap (s + x) = (s + x) % 256 := IntKind.wrap_u8 _
      go_wp2
      go_roundw
      case rel => exact ⟨k + 1, by omega, by rw [SN.out], by go_num, by first | rfl | trivial⟩
      case measure => simp [intOf]; omega
    · have hge : (l.length : Int) ≤ (k : Int) := by omega
      obtain rfl : k = l.length := by omega
      rw [hfin.out] at hb ⊢
      clear hge
      go_wp2
      go_ret
      exact ⟨ret_int (by first | omega | (rw [IntKind.wrap_u8]; omega)), rfl⟩
set_option maxRecDepth 100000 in
set_option maxHeartbeats 4000000 in
theorem rtotal (a : Option Addr) (cap : Nat) (l : List Int) (w : World) (hr : RowIs .u8 w a l) (hL : l.length ≤ maxLen) (hB : BYT l) :
    Calls Try.prog 25 #[.slice a l.length cap] w fun e w' => e = .returned (.int .i64 (tot l)) ∧ w = w' := by
  have hL' : (l.length : Int) ≤ 9223372036854775807 := by unfold maxLen at hL; omega
  have hfin : tot (l.take l.length) = tot l := by rw [List.take_length]
  replace hfin := Lib.hid hfin
  replace hB := Lib.hid hB
  go_enter Try.func25, Try.ntmps25
  go_wp2_with fail
  go_loopw [3, 4] (fun s i v => ∃ k : Nat, k ≤ l.length ∧ s = .int .i64 (tot (l.take k)) ∧ i = .int .i64 (k : Int) ∧ w = v) (fun _ i _ => l.length - (intOf i).toNat)
  case atStart => exact ⟨0, by omega, rfl, rfl, rfl⟩
  case round =>
    obtain ⟨k, hk, rfl, rfl, rfl⟩ := hrel
    have hb := tot_bd (l.take k)
    by_cases hlt : k < l.length
    · obtain ⟨b, off, rfl, -, hc⟩ := hr.at hlt
      have h1 : (k : Int) < (l.length : Int) := by omega
      have h0 : 0 ≤ (k : Int) := by omega
      have SN := Lib.hid (tot_snoc hlt)
      have hx := hB.out k hlt
      generalize tot (l.take k) = s at *
      generalize l.getD k 0 = x at *
      have hw1 : IntKind.i64.wrap x = x := by rw [IntKind.wrap_i64]; omega
      have hw : IntKind.i64.wrap (s + x) = s + x := by rw [IntKind.wrap_i64]; omega
      have hm : (s + x).tmod 256 = (s + x) % 256 := Int.tmod_eq_emod_of_nonneg (by omega)
      clear hx hb
      go_wp2
      go_roundw
      case rel => exact ⟨k + 1, by omega, by rw [SN.out], by go_num, by first | rfl | trivial⟩
      case measure => simp [intOf]; omega
    · have hge : (l.length : Int) ≤ (k : Int) := by omega
      obtain rfl : k = l.length := by omega
      rw [hfin.out] at hb ⊢
      clear hge
      go_wp2
      go_ret
      exact ⟨rfl, rfl⟩
theorem isbyteT (n : Int) (w : World) (h : 0 ≤ n ∧ n ≤ 255) : Calls Try.prog 46 #[.int .i64 n] w fun e w' => e = .returned (.bool true) ∧ w = w' := by
  obtain ⟨h1, h2⟩ := h
  go_enter Try.func46, Try.ntmps46
  go_wp2
  go_ret
  exact ⟨rfl, rfl⟩
theorem isbyteF (n : Int) (w : World) (h : n < 0 ∨ 255 < n) : Calls Try.prog 46 #[.int .i64 n] w fun e w' => e = .returned (.bool false) ∧ w = w' := by
  rcases (show n < 0 ∨ (0 ≤ n ∧ 255 < n) by omega) with h | ⟨h, h2⟩
  · go_enter Try.func46, Try.ntmps46
    go_wp2
    go_ret
    exact ⟨by first | rfl | exact ret_bool (by simp; omega), rfl⟩
  · go_enter Try.func46, Try.ntmps46
    go_wp2
    go_ret
    exact ⟨by first | rfl | exact ret_bool (by simp; omega), rfl⟩
set_option maxRecDepth 100000 in
set_option maxHeartbeats 4000000 in
theorem fright (i s v t : Int) (w : World) : Calls Try.prog 17 #[.agg #[.int .i64 i, .int .i64 s, .int .i64 v, .int .i64 t]] w fun e w' => e = .returned (.bool (frB i s v t)) ∧ Below w.heap.size w w' := by
  have FF : (i < 0 ∨ 255 < i ∨ s < 0 ∨ 255 < s ∨ v < -8388608 ∨ 8388607 < v ∨ t < -128 ∨ 127 < t) → frB i s v t = false := fun h => by
    cases hh : frB i s v t
    · rfl
    · have := frB_at hh
      omega
  by_cases hi : 0 ≤ i ∧ i ≤ 255
  · have A1 := Lib.hid (fun u => isbyteT i u hi)
    by_cases hs : 0 ≤ s ∧ s ≤ 255
    · have A2 := Lib.hid (fun u => isbyteT s u hs)
      rcases (show v < -8388608 ∨ (-8388608 ≤ v ∧ 8388607 < v) ∨ (-8388608 ≤ v ∧ v ≤ 8388607 ∧ t < -128) ∨ (-8388608 ≤ v ∧ v ≤ 8388607 ∧ -128 ≤ t ∧ 127 < t) ∨ (-8388608 ≤ v ∧ v ≤ 8388607 ∧ -128 ≤ t ∧ t ≤ 127) by omega) with h | ⟨h, h2⟩ | ⟨h, h2, h3⟩ | ⟨h, h2, h3, h4⟩ | ⟨h, h2, h3, h4⟩
      all_goals
        first
          | (rw [show frB i s v t = true from frB_mk ⟨by omega, by omega, by omega, by omega, by omega, by omega, by omega, by omega⟩])
          | (rw [FF (by omega)])
        clear FF hi hs
        go_enter Try.func17, Try.ntmps17
        go_wp2_with fail
        refine (A1.out _).mono ?_
        rintro e w1 ⟨rfl, rfl⟩
        go_wp2_with fail
        refine (A2.out _).mono ?_
        rintro e w2 ⟨rfl, rfl⟩
        go_wp2
        go_ret
        exact ⟨by first | rfl | exact ret_bool (by simp; omega), (by repeat (first | exact Below.refl _ _ | assumption | apply Below.drew | apply below_drewN | (refine Below.alloc ?_ (by first | exact Nat.le_refl _ | omega | (simp <;> omega)) _) | (refine Below.setCell ?_ (by first | exact Nat.le_refl _ | omega | (simp <;> omega)) _)))⟩
    · have A2 := Lib.hid (fun u => isbyteF s u (by omega))
      rw [FF (by omega)]
      clear FF hi hs
      go_enter Try.func17, Try.ntmps17
      go_wp2_with fail
      refine (A1.out _).mono ?_
      rintro e w1 ⟨rfl, rfl⟩
      go_wp2_with fail
      refine (A2.out _).mono ?_
      rintro e w2 ⟨rfl, rfl⟩
      go_wp2
      go_ret
      exact ⟨by first | rfl | exact ret_bool (by simp; omega), (by repeat (first | exact Below.refl _ _ | assumption | apply Below.drew | apply below_drewN | (refine Below.alloc ?_ (by first | exact Nat.le_refl _ | omega | (simp <;> omega)) _) | (refine Below.setCell ?_ (by first | exact Nat.le_refl _ | omega | (simp <;> omega)) _)))⟩
  · have A1 := Lib.hid (fun u => isbyteF i u (by omega))
    rw [FF (by omega)]
    clear FF hi
    go_enter Try.func17, Try.ntmps17
    go_wp2_with fail
    refine (A1.out _).mono ?_
    rintro e w1 ⟨rfl, rfl⟩
    go_wp2
    go_ret
    exact ⟨by first | rfl | exact ret_bool (by simp; omega), (by repeat (first | exact Below.refl _ _ | assumption | apply Below.drew | apply below_drewN | (refine Below.alloc ?_ (by first | exact Nat.le_refl _ | omega | (simp <;> omega)) _) | (refine Below.setCell ?_ (by first | exact Nat.le_refl _ | omega | (simp <;> omega)) _)))⟩
set_option maxRecDepth 100000 in
set_option maxHeartbeats 4000000 in
theorem rfright (i s v t : Int) (w : World) : Calls Try.prog 16 #[.agg #[.int .i64 i, .int .i64 s, .int .i64 v, .int .i64 t]] w fun e w' => e = .returned (.bool (frB i s v t)) ∧ Below w.heap.size w w' := by
  rcases (show i < 0 ∨ (0 ≤ i ∧ 255 < i) ∨ (0 ≤ i ∧ i ≤ 255 ∧ s < 0) ∨ (0 ≤ i ∧ i ≤ 255 ∧ 0 ≤ s ∧ 255 < s) ∨ (0 ≤ i ∧ i ≤ 255 ∧ 0 ≤ s ∧ s ≤ 255 ∧ v < -8388608) ∨ (0 ≤ i ∧ i ≤ 255 ∧ 0 ≤ s ∧ s ≤ 255 ∧ -8388608 ≤ v ∧ 8388607 < v) ∨ (0 ≤ i ∧ i ≤ 255 ∧ 0 ≤ s ∧ s ≤ 255 ∧ -8388608 ≤ v ∧ v ≤ 8388607 ∧ t < -128) ∨ (0 ≤ i ∧ i ≤ 255 ∧ 0 ≤ s ∧ s ≤ 255 ∧ -8388608 ≤ v ∧ v ≤ 8388607 ∧ -128 ≤ t ∧ 127 < t) ∨ (0 ≤ i ∧ i ≤ 255 ∧ 0 ≤ s ∧ s ≤ 255 ∧ -8388608 ≤ v ∧ v ≤ 8388607 ∧ -128 ≤ t ∧ t ≤ 127) by omega) with h | ⟨a, h⟩ | ⟨a, b, h⟩ | ⟨a, b, c, h⟩ | ⟨a, b, c, d, h⟩ | ⟨a, b, c, d, e, h⟩ | ⟨a, b, c, d, e, f, h⟩ | ⟨a, b, c, d, e, f, g, h⟩ | ⟨a, b, c, d, e, f, g, h⟩
  all_goals
    first
      | (rw [show frB i s v t = true from frB_mk ⟨by omega, by omega, by omega, by omega, by omega, by omega, by omega, by omega⟩])
      | (rw [show frB i s v t = false from by
          cases hh : frB i s v t
          · rfl
          · have := frB_at hh
            omega])
    go_enter Try.func16, Try.ntmps16
    go_wp2
    go_ret
    exact ⟨by first | rfl | exact ret_bool (by simp; omega), (by repeat (first | exact Below.refl _ _ | assumption | apply Below.drew | apply below_drewN | (refine Below.alloc ?_ (by first | exact Nat.le_refl _ | omega | (simp <;> omega)) _) | (refine Below.setCell ?_ (by first | exact Nat.le_refl _ | omega | (simp <;> omega)) _)))⟩
set_option maxRecDepth 100000 in
set_option maxHeartbeats 4000000 in
theorem rsame12 (a b : Option Addr) (ca cb : Nat) (l : List Int) (w : World) (hr : RowIs .u8 w a l) (hs : RowIs .u8 w b l) (hL : l.length ≤ maxLen) :
    Calls Try.prog 19 #[.slice a l.length ca, .slice b l.length cb] w fun e w' => e = .returned (.bool true) ∧ Below w.heap.size w w' := by
  have hL' : (l.length : Int) ≤ 9223372036854775807 := by unfold maxLen at hL; omega
  have RA := Lib.hid (fun u (h : Below w.heap.size w u) => hr.below h)
  have RB := Lib.hid (fun u (h : Below w.heap.size w u) => hs.below h)
  clear hr hs
  go_enter Try.func19, Try.ntmps19
  go_wp2_with fail
  go_loopw [5] (fun i v => ∃ k : Nat, k ≤ l.length ∧ i = .int .i64 (k : Int) ∧ Below w.heap.size w v) (fun i _ => l.length - (intOf i).toNat)
  case atStart => exact ⟨0, by omega, rfl, Below.refl _ _⟩
  case round =>
    obtain ⟨k, hk, rfl, hb⟩ := hrel
    by_cases hlt : k < l.length
    · obtain ⟨b1, o1, rfl, -, c1⟩ := (RA.out _ hb).at hlt
      obtain ⟨b2, o2, rfl, -, c2⟩ := (RB.out _ hb).at hlt
      have h1 : (k : Int) < (l.length : Int) := by omega
      have h0 : 0 ≤ (k : Int) := by omega
      generalize l.getD k 0 = x at *
      have d1 : (x != x) = false := by simp
      go_wp2_with fail
      refine region_moves (fun u => u.cell? ⟨b1, o1 + k, none⟩ = some (.int .u8 x) ∧ u.cell? ⟨b2, o2 + k, none⟩ = some (.int .u8 x)) [] [(.free, 0), (.free, 1), (.free, 2), (.take, 3), (.free, 4), (.free, 5), (.free, 6), (.take, 7), (.free, 8)] _ (by kernel_rfl) (by kernel_rfl) (by kernel_rfl) (by kernel_rfl) (by decide) rfl (fun _ _ _ _ _ h => h) ?_
      simp only [List.filterMap_cons, List.filterMap_nil, List.getElem?_toArray, List.getElem?_cons_zero, List.getElem?_cons_succ, Option.map_some]
      iterate 3
        first
          | (refine mv_free ?_ (Or.inl ⟨by rfl, ?_⟩) (⟨c1, c2⟩) ?_
             rotate_left 1
             · intro u
               go_simp
               try simp only [d1]
               try simp only [d2]
               try simp only [d3]
               try with_reducible rfl
             simp only [Act.put, List.setIfInBounds_toArray, List.set_cons_zero, List.set_cons_succ])
          | (refine mv_free _ (Or.inr ⟨by rfl, rfl⟩) (⟨c1, c2⟩) ?_
             simp only [Act.put, List.setIfInBounds_toArray, List.set_cons_zero, List.set_cons_succ])
      iterate 1
        first
          | (refine mv_take ?_ (Or.inl ⟨by rfl, ?_⟩) (⟨c1, c2⟩) ?_
             rotate_left 1
             · intro u hu
               (try dsimp only at hu)
               go_simp
               try with_reducible rfl
             simp only [Act.put, List.setIfInBounds_toArray, List.set_cons_zero, List.set_cons_succ])
          | (refine mv_take _ (Or.inr ⟨by rfl, rfl⟩) (⟨c1, c2⟩) ?_
             simp only [Act.put, List.setIfInBounds_toArray, List.set_cons_zero, List.set_cons_succ])
      iterate 3
        first
          | (refine mv_free ?_ (Or.inl ⟨by rfl, ?_⟩) (⟨c1, c2⟩) ?_
             rotate_left 1
             · intro u
               go_simp
               try simp only [d1]
               try simp only [d2]
               try simp only [d3]
               try with_reducible rfl
             simp only [Act.put, List.setIfInBounds_toArray, List.set_cons_zero, List.set_cons_succ])
          | (refine mv_free _ (Or.inr ⟨by rfl, rfl⟩) (⟨c1, c2⟩) ?_
             simp only [Act.put, List.setIfInBounds_toArray, List.set_cons_zero, List.set_cons_succ])
      iterate 1
        first
          | (refine mv_take ?_ (Or.inl ⟨by rfl, ?_⟩) (⟨c1, c2⟩) ?_
             rotate_left 1
             · intro u hu
               (try dsimp only at hu)
               go_simp
               try with_reducible rfl
             simp only [Act.put, List.setIfInBounds_toArray, List.set_cons_zero, List.set_cons_succ])
          | (refine mv_take _ (Or.inr ⟨by rfl, rfl⟩) (⟨c1, c2⟩) ?_
             simp only [Act.put, List.setIfInBounds_toArray, List.set_cons_zero, List.set_cons_succ])
      iterate 1
        first
          | (refine mv_free ?_ (Or.inl ⟨by rfl, ?_⟩) (⟨c1, c2⟩) ?_
             rotate_left 1
             · intro u
               go_simp
               try simp only [d1]
               try simp only [d2]
               try simp only [d3]
               try with_reducible rfl
             simp only [Act.put, List.setIfInBounds_toArray, List.set_cons_zero, List.set_cons_succ])
          | (refine mv_free _ (Or.inr ⟨by rfl, rfl⟩) (⟨c1, c2⟩) ?_
             simp only [Act.put, List.setIfInBounds_toArray, List.set_cons_zero, List.set_cons_succ])
      refine mv_done ?_
      go_wp2
      go_roundw
      case rel => exact ⟨k + 1, by omega, by go_num, hb.drew⟩
      case measure => simp [intOf]; omega
    · have hge : (l.length : Int) ≤ (k : Int) := by omega
      go_wp2
      go_ret
      exact ⟨rfl, hb⟩
end Go.Proofs.Ytflcagcekhgjcaa
