/- Contracts of package wide. -/
import Derived.Test.YtfejdbmamaggpaaDoorDiv64
import Derived.Test.YtfejdbmamaggpaaDoorNum
namespace Go.Proofs.YtfejdbmamaggpaaDoor
open Go.ChangeShapes Go.WideShapes Go.ChangeAt Go.RowKit
set_option linter.unusedVariables false

def mag (n : Int) : Int := if n < 0 then -n else n
def xr (a b c : Int) : Bool := (decide (a < 0) != decide (b < 0)) != decide (c < 0)

set_option maxHeartbeats 400000 in
theorem magnitude_any (n : Int) (w : World) (h1 : -9223372036854775808 ≤ n) (h2 : n ≤ 9223372036854775807) :
    Calls Tryd.prog 144 #[.int .i64 n] w fun e w' => e = .returned (.int .u64 (mag n)) ∧ w = w' := by
  go_enter Tryd.func144, Tryd.ntmps144
  go_wp2
  all_goals
    go_ret
    refine ⟨ret_int ?_, rfl⟩
    unfold mag
    first | omega | (simp only [IntKind.wrap_u64]; omega)

set_option maxHeartbeats 400000 in
theorem negative_any (a b c : Int) (w : World) :
    Calls Tryd.prog 146 #[.int .i64 a, .int .i64 b, .int .i64 c] w fun e w' => e = .returned (.bool (xr a b c)) ∧ w = w' := by
  go_enter Tryd.func146, Tryd.ntmps146
  go_wp2
  go_ret
  exact ⟨rfl, rfl⟩

theorem mag_bd (n : Int) (h1 : -9223372036854775808 ≤ n) (h2 : n ≤ 9223372036854775807) : 0 ≤ mag n ∧ mag n ≤ 9223372036854775808 := by unfold mag; omega
theorem mag_mul (a b : Int) (ha : 0 ≤ mag a ∧ mag a ≤ 9223372036854775808) (hb : 0 ≤ mag b ∧ mag b ≤ 9223372036854775808) : 0 ≤ mag a * mag b ∧ mag a * mag b ≤ 85070591730234615865843651857942052864 :=
  ⟨Int.mul_nonneg ha.1 hb.1, by have := Int.mul_le_mul ha.2 hb.2 hb.1 (by omega : (0 : Int) ≤ 9223372036854775808); omega⟩

/-- What divide hands back: whole, rest, by, negative; and whether. -/
def dvB (a b c : Int) : Bool := decide (mag a * mag b / 18446744073709551616 < mag c)

set_option maxHeartbeats 1000000 in
theorem divide_yes (a b c : Int) (w : World) (ha1 : -9223372036854775808 ≤ a) (ha2 : a ≤ 9223372036854775807) (hb1 : -9223372036854775808 ≤ b) (hb2 : b ≤ 9223372036854775807) (hc1 : -9223372036854775808 ≤ c) (hc2 : c ≤ 9223372036854775807)
    (h : mag a * mag b / 18446744073709551616 < mag c) :
    Calls Tryd.prog 111 #[.int .i64 a, .int .i64 b, .int .i64 c] w fun e w' =>
      e = .returned (.tuple #[.agg #[.int .u64 (mag a * mag b / mag c), .int .u64 (mag a * mag b % mag c), .int .u64 (mag c), .bool (xr a b c)], .bool true]) ∧ Below w.heap.size w w' := by
  have ba := mag_bd a ha1 ha2
  have bb := mag_bd b hb1 hb2
  have bc' := mag_bd c hc1 hc2
  have bm := mag_mul a b ba bb
  have M1 := Lib.hid (fun v => magnitude_any a v ha1 ha2)
  have M2 := Lib.hid (fun v => magnitude_any b v hb1 hb2)
  have M3 := Lib.hid (fun v => magnitude_any c v hc1 hc2)
  have MU := Lib.hid (fun v => mul64_any (mag a) (mag b) v ba.1 (by omega) bb.1 (by omega))
  have hN : mag a * mag b / 18446744073709551616 * 18446744073709551616 + mag a * mag b % 18446744073709551616 = mag a * mag b := by omega
  have DV := Lib.hid (fun v => div64_any (mag a * mag b / 18446744073709551616) (mag a * mag b % 18446744073709551616) (mag c) v (by omega) h (by omega) (by omega) (by omega))
  rw [hN] at DV
  have NG := Lib.hid (fun v => negative_any a b c v)
  clear hN
  generalize mag a * mag b / 18446744073709551616 = H at *
  generalize mag a * mag b % 18446744073709551616 = L at *
  generalize mag a * mag b / mag c = q at *
  generalize mag a * mag b % mag c = r at *
  generalize mag a = A at *
  generalize mag b = B at *
  generalize mag c = C at *
  generalize xr a b c = x at *
  go_enter Tryd.func111, Tryd.ntmps111
  go_wp2_with (first | (go_at_call 144; (with_reducible refine (M1.out _).mono ?_); rintro e w1 ⟨rfl, rfl⟩) | (go_at_call 144; (with_reducible refine (M2.out _).mono ?_); rintro e w1 ⟨rfl, rfl⟩) | (go_at_call 144; (with_reducible refine (M3.out _).mono ?_); rintro e w1 ⟨rfl, rfl⟩) | (go_at_call 143; (with_reducible refine (MU.out _).mono ?_); rintro e w1 ⟨rfl, rfl⟩) | (go_at_call 146; (with_reducible refine (NG.out _).mono ?_); rintro e w1 ⟨rfl, rfl⟩) | (go_at_call 145; (with_reducible refine (DV.out _).mono ?_); rintro e w1 ⟨rfl, n, rfl⟩))
  exact bodyPost_ret (v := .tuple #[.agg #[.int .u64 q, .int .u64 r, .int .u64 C, .bool x], .bool true]) (by simp [results, Tryd.results111, go_sem]) rfl ⟨rfl, (by repeat (first | exact Below.refl _ _ | assumption | apply Below.drew | apply below_drewN | (refine Below.alloc ?_ (by first | exact Nat.le_refl _ | omega | (simp <;> omega)) _) | (refine Below.setCell ?_ (by first | exact Nat.le_refl _ | omega | (simp <;> omega)) _)))⟩

set_option maxHeartbeats 1000000 in
theorem divide_no (a b c : Int) (w : World) (ha1 : -9223372036854775808 ≤ a) (ha2 : a ≤ 9223372036854775807) (hb1 : -9223372036854775808 ≤ b) (hb2 : b ≤ 9223372036854775807) (hc1 : -9223372036854775808 ≤ c) (hc2 : c ≤ 9223372036854775807)
    (h : mag c ≤ mag a * mag b / 18446744073709551616) :
    Calls Tryd.prog 111 #[.int .i64 a, .int .i64 b, .int .i64 c] w fun e w' =>
      e = .returned (.tuple #[.agg #[.int .u64 0, .int .u64 0, .int .u64 0, .bool false], .bool false]) ∧ Below w.heap.size w w' := by
  have ba := mag_bd a ha1 ha2
  have bb := mag_bd b hb1 hb2
  have bm := mag_mul a b ba bb
  have M1 := Lib.hid (fun v => magnitude_any a v ha1 ha2)
  have M2 := Lib.hid (fun v => magnitude_any b v hb1 hb2)
  have M3 := Lib.hid (fun v => magnitude_any c v hc1 hc2)
  have MU := Lib.hid (fun v => mul64_any (mag a) (mag b) v ba.1 (by omega) bb.1 (by omega))
  generalize mag a * mag b / 18446744073709551616 = H at *
  generalize mag a * mag b % 18446744073709551616 = L at *
  generalize mag a = A at *
  generalize mag b = B at *
  generalize mag c = C at *
  go_enter Tryd.func111, Tryd.ntmps111
  go_wp2_with (first | (go_at_call 144; (with_reducible refine (M1.out _).mono ?_); rintro e w1 ⟨rfl, rfl⟩) | (go_at_call 144; (with_reducible refine (M2.out _).mono ?_); rintro e w1 ⟨rfl, rfl⟩) | (go_at_call 144; (with_reducible refine (M3.out _).mono ?_); rintro e w1 ⟨rfl, rfl⟩) | (go_at_call 143; (with_reducible refine (MU.out _).mono ?_); rintro e w1 ⟨rfl, rfl⟩))
  exact bodyPost_ret (v := .tuple #[.agg #[.int .u64 0, .int .u64 0, .int .u64 0, .bool false], .bool false]) (by simp [results, Tryd.results111, go_sem]) rfl ⟨rfl, (by repeat (first | exact Below.refl _ _ | assumption | apply Below.drew | apply below_drewN | (refine Below.alloc ?_ (by first | exact Nat.le_refl _ | omega | (simp <;> omega)) _) | (refine Below.setCell ?_ (by first | exact Nat.le_refl _ | omega | (simp <;> omega)) _)))⟩

/-- The number one farther from 0, with its sign, if it is within the bounds. -/
def awN (W : Int) (st : Bool) : Int := if st then W + 1 else W
def awB (W : Int) (st : Bool) : Bool := decide (awN W st ≤ 1099511627775)
def awV (W : Int) (ng st : Bool) : Int := if awB W st then (if ng then -awN W st else awN W st) else 0

set_option maxHeartbeats 1000000 in
theorem away_any (W r y : Int) (ng st : Bool) (w : World) (h0 : 0 ≤ W) (h1 : W ≤ 18446744073709551615) :
    Calls Tryd.prog 112 #[.agg #[.int .u64 W, .int .u64 r, .int .u64 y, .bool ng], .bool st] w fun e w' => e = .returned (.tuple #[.int .i64 (awV W ng st), .bool (awB W st)]) ∧ Below w.heap.size w w' := by
  cases ng <;> cases st
  all_goals
    go_enter Tryd.func112, Tryd.ntmps112
    go_wp2
    all_goals
      go_ret2
      refine ⟨ret_ib ?_ ?_, (by repeat (first | exact Below.refl _ _ | assumption | apply Below.drew | apply below_drewN | (refine Below.alloc ?_ (by first | exact Nat.le_refl _ | omega | (simp <;> omega)) _) | (refine Below.setCell ?_ (by first | exact Nat.le_refl _ | omega | (simp <;> omega)) _)))⟩
      · unfold awV awB awN
        simp
        first | omega | (split <;> omega)
      · unfold awB awN
        simp
        first | omega | (split <;> omega)
end Go.Proofs.YtfejdbmamaggpaaDoor
