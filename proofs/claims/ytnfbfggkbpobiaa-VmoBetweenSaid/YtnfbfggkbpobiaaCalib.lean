/- Calibrated speeds, and the document's (as in Speed5: never import both); walked. -/
import Derived.Test.YtnfbfggkbpobiaaMach6
namespace Go.Proofs.Ytnfbfggkbpobiaa
open Go.ChangeShapes Go.WideShapes Go.ChangeAt Go.RowKit
set_option linter.unusedVariables false
set_option linter.unusedSimpArgs false

/-- The speed of an impact pressure at the sea's level. -/
def spCa (q : Int) : Int := maV q 6484800 * 34029 / 10000
theorem maV_bd (q p : Int) : 0 ≤ maV q p ∧ maV q p ≤ 20000 := by
  have := mcO_bd (fitV q 1073741824 p)
  unfold maV
  split <;> omega
set_option maxHeartbeats 1000000 in
theorem ssea_any (m : Int) (w : World) (h0 : 0 ≤ m) (h1 : m ≤ 20000) : Calls Try.prog 97 #[.int .i64 m] w fun e w' => e = .returned (.int .i64 (m * 34029 / 10000)) ∧ w = w' := by
  go_enter Try.func97, Try.ntmps97
  go_wp2
  go_ret
  exact ⟨rfl, rfl⟩
set_option maxHeartbeats 1000000 in
theorem scal_any (q : Int) (w : World) (g1 : -9223372036854775808 ≤ q) (g2 : q ≤ 9223372036854775807) : Calls Try.prog 83 #[.int .i64 q] w fun e w' => e = .returned (.int .i64 (spCa q)) ∧ Below w.heap.size w w' := by
  have AT := Lib.hid (fun u => mat_any q 6484800 u g1 g2 (by omega) (by omega))
  have b := maV_bd q 6484800
  have HV := Lib.hid (show spCa q = maV q 6484800 * 34029 / 10000 from rfl)
  have SE := Lib.hid (fun u => ssea_any (maV q 6484800) u b.1 b.2)
  generalize spCa q = R at *
  generalize maV q 6484800 = V at *
  generalize maB q 6484800 = B at *
  go_enter Try.func83, Try.ntmps83
  go_wp2_with fail
  refine (AT.out _).mono ?_
  rintro e w1 ⟨rfl, hb1⟩
  go_wp2_with fail
  refine (SE.out _).mono ?_
  rintro e w2 ⟨rfl, rfl⟩
  go_wp2
  go_ret
  exact ⟨ret_int HV.out.symm, hb1⟩
set_option maxHeartbeats 1000000 in
theorem rcal9_any (q : Int) (w : World) (g1 : -9223372036854775808 ≤ q) (g2 : q ≤ 9223372036854775807) : Calls Try.prog 95 #[.int .i64 q] w fun e w' => e = .returned (.int .i64 (spCa q)) ∧ Below w.heap.size w w' := by
  have AT := Lib.hid (fun u => rat8_any q 6484800 u g1 g2 (by omega) (by omega))
  have b := maV_bd q 6484800
  have HV := Lib.hid (show spCa q = maV q 6484800 * 34029 / 10000 from rfl)
  have HB := Lib.hid (fun h : maB q 6484800 = false => show maV q 6484800 = 0 by unfold maV; rw [h]; rfl)
  generalize spCa q = R at *
  generalize maV q 6484800 = V at *
  generalize maB q 6484800 = B at *
  cases B
  · have hv := Lib.hid (HB.out rfl)
    go_enter Try.func95, Try.ntmps95
    go_wp2_with fail
    refine (AT.out _).mono ?_
    rintro e w1 ⟨rfl, hb1⟩
    go_wp2
    go_ret
    exact ⟨ret_int (by rw [HV.out, hv.out]; rfl), hb1⟩
  · go_enter Try.func95, Try.ntmps95
    go_wp2_with fail
    refine (AT.out _).mono ?_
    rintro e w1 ⟨rfl, hb1⟩
    go_wp2
    go_ret
    exact ⟨ret_int HV.out.symm, hb1⟩

end Go.Proofs.Ytnfbfggkbpobiaa
