/- Sum, Total; which frames may be; are two rows of bytes the same; walked. -/
import Derived.Test.YtbbmkmkalghaeaaFrame1
import Derived.Test.YtbbmkmkalghaeaaObj
import Derived.Test.YtbbmkmkalghaeaaReg
import Derived.Deep.Cut
namespace Go.Proofs.Ytbbmkmkalghaeaa
open Go.ChangeShapes Go.WideShapes Go.ChangeAt Go.RowKit
set_option linter.unusedVariables false
set_option linter.unusedSimpArgs false

set_option maxRecDepth 100000 in
set_option maxHeartbeats 4000000 in
theorem fsum (a : Option Addr) (cap : Nat) (l : List Int) (w : World) (hr : RowIs .u8 w a l) (hL : l.length ≤ maxLen) :
    Calls Try.prog 149 #[.slice a l.length cap] w fun e w' => e = .returned (.int .u8 ((256 - tot l) % 256)) ∧ w = w' := by
  have hL' : (l.length : Int) ≤ 9223372036854775807 := by unfold maxLen at hL; omega
  have hfin : tot (l.take l.length) = tot l := by rw [List.take_length]
  replace hfin := Lib.hid hfin
  go_enter Try.func149, Try.ntmps149
  go_wp2_with fail
  go_loopw [3, 8] (fun s i v => ∃ k : Nat, k ≤ l.length ∧ s = .int .u8 (tot (l.take k)) ∧ i = .int .i64 (k : Int) ∧ w = v) (fun _ i _ => l.length - (intOf i).toNat)
  case atStart => exact ⟨0, by omega, rfl, rfl, rfl⟩
  case round =>
    obtain ⟨k, hk, rfl, rfl, rfl⟩ := hrel
    have hb := tot_bd (l.take k)
    by_cases hlt : k < l.length
    · obtain ⟨b, off, rfl, -, hc⟩ := hr.at hlt
      have h1 : (k : Int) < (l.length : Int) := by omega
      have h0 : 0 ≤ (k : Int) := by omega
      have SN := Lib.hid (tot_snoc hlt)
      generalize tot (l.take k) = s at *
      generalize l.getD k 0 = x at *
      have hw : IntKind.u8.wrap (s + x) = (s + x) % 256 := IntKind.wrap_u8 _
      go_wp2
      go_roundw
      case rel => exact ⟨k + 1, by omega, by rw [SN.out], by go_num, by first | rfl | trivial⟩
      case measure => simp [intOf]; omega
    · have hge : (l.length : Int) ≤ (k : Int) := by omega
      obtain rfl : k = l.length := by omega
      rw [hfin.out] at hb ⊢
      clear hge
      go_wp2
      go_ret
      exact ⟨ret_int (by first | omega | (rw [IntKind.wrap_u8]; omega)), rfl⟩
set_option maxRecDepth 100000 in
set_option maxHeartbeats 4000000 in
theorem rtotal (a : Option Addr) (cap : Nat) (l : List Int) (w : World) (hr : RowIs .u8 w a l) (hL : l.length ≤ maxLen) (hB : BYT l) :
    Calls Try.prog 90 #[.slice a l.length cap] w fun e w' => e = .returned (.int .i64 (tot l)) ∧ w = w' := by
  have hL' : (l.length : Int) ≤ 9223372036854775807 := by unfold maxLen at hL; omega
  have hfin : tot (l.take l.length) = tot l := by rw [List.take_length]
  replace hfin := Lib.hid hfin
  replace hB := Lib.hid hB
  go_enter Try.func90, Try.ntmps90
  go_wp2_with fail
  go_loopw [3, 4] (fun s i v => ∃ k : Nat, k ≤ l.length ∧ s = .int .i64 (tot (l.take k)) ∧ i = .int .i64 (k : Int) ∧ w = v) (fun _ i _ => l.length - (intOf i).toNat)
  case atStart => exact ⟨0, by omega, rfl, rfl, rfl⟩
  case round =>
    obtain ⟨k, hk, rfl, rfl, rfl⟩ := hrel
    have hb := tot_bd (l.take k)
    by_cases hlt : k < l.length
    · obtain ⟨b, off, rfl, -, hc⟩ := hr.at hlt
      have h1 : (k : Int) < (l.length : Int) := by omega
      have h0 : 0 ≤ (k : Int) := by omega
      have SN := Lib.hid (tot_snoc hlt)
      have hx := hB.out k hlt
      generalize tot (l.take k) = s at *
      generalize l.getD k 0 = x at *
      have hw1 : IntKind.i64.wrap x = x := by rw [IntKind.wrap_i64]; omega
      have hw : IntKind.i64.wrap (s + x) = s + x := by rw [IntKind.wrap_i64]; omega
      have hm : (s + x).tmod 256 = (s + x) % 256 := Int.tmod_eq_emod_of_nonneg (by omega)
      clear hx hb
      go_wp2
      go_roundw
      case rel => exact ⟨k + 1, by omega, by rw [SN.out], by go_num, by first | rfl | trivial⟩
      case measure => simp [intOf]; omega
    · have hge : (l.length : Int) ≤ (k : Int) := by omega
      obtain rfl : k = l.length := by omega
      rw [hfin.out] at hb ⊢
      clear hge
      go_wp2
      go_ret
      exact ⟨rfl, rfl⟩
set_option maxRecDepth 100000 in
set_option maxHeartbeats 4000000 in
theorem rfright (i s v t : Int) (w : World) : Calls Try.prog 26 #[.agg #[.int .i64 i, .int .i64 s, .int .i64 v, .int .i64 t]] w fun e w' => e = .returned (.bool (frB i s v t)) ∧ Below w.heap.size w w' := by
  rcases (show i < 0 ∨ (0 ≤ i ∧ 255 < i) ∨ (0 ≤ i ∧ i ≤ 255 ∧ s < 0) ∨ (0 ≤ i ∧ i ≤ 255 ∧ 0 ≤ s ∧ 255 < s) ∨ (0 ≤ i ∧ i ≤ 255 ∧ 0 ≤ s ∧ s ≤ 255 ∧ v < -8388608) ∨ (0 ≤ i ∧ i ≤ 255 ∧ 0 ≤ s ∧ s ≤ 255 ∧ -8388608 ≤ v ∧ 8388607 < v) ∨ (0 ≤ i ∧ i ≤ 255 ∧ 0 ≤ s ∧ s ≤ 255 ∧ -8388608 ≤ v ∧ v ≤ 8388607 ∧ t < -128) ∨ (0 ≤ i ∧ i ≤ 255 ∧ 0 ≤ s ∧ s ≤ 255 ∧ -8388608 ≤ v ∧ v ≤ 8388607 ∧ -128 ≤ t ∧ 127 < t) ∨ (0 ≤ i ∧ i ≤ 255 ∧ 0 ≤ s ∧ s ≤ 255 ∧ -8388608 ≤ v ∧ v ≤ 8388607 ∧ -128 ≤ t ∧ t ≤ 127) by omega) with h | ⟨a, h⟩ | ⟨a, b, h⟩ | ⟨a, b, c, h⟩ | ⟨a, b, c, d, h⟩ | ⟨a, b, c, d, e, h⟩ | ⟨a, b, c, d, e, f, h⟩ | ⟨a, b, c, d, e, f, g, h⟩ | ⟨a, b, c, d, e, f, g, h⟩
  all_goals
    first
      | (rw [show frB i s v t = true from frB_mk ⟨by omega, by omega, by omega, by omega, by omega, by omega, by omega, by omega⟩])
      | (rw [show frB i s v t = false from by
          cases hh : frB i s v t
          · rfl
          · have := frB_at hh
            omega])
    go_enter Try.func26, Try.ntmps26
    go_wp2
    go_ret
    exact ⟨by first | rfl | exact ret_bool (by simp; omega), (by repeat (first | exact Below.refl _ _ | assumption | apply Below.drew | apply below_drewN | (refine Below.alloc ?_ (by first | exact Nat.le_refl _ | omega | (simp <;> omega)) _) | (refine Below.setCell ?_ (by first | exact Nat.le_refl _ | omega | (simp <;> omega)) _)))⟩
end Go.Proofs.Ytbbmkmkalghaeaa
