/- Arrays of numbers are equal to themselves. -/
import Derived.Test.YtaijkngdelolgaaBase
import Derived.DeepKeys
namespace Go.Proofs.Ytaijkngdelolgaa
open Go.ChangeShapes Go.WideShapes Go.ChangeAt Go.RowKit
set_option linter.unusedVariables false
set_option linter.unusedSimpArgs false

theorem info_i64m : ∃ i, Try.prog.info? 2 = some i := info_of_underlying Try.underlying2
theorem info_v3 : ∃ i, Try.prog.info? 70 = some i := info_of_underlying Try.underlying70
theorem cel_i64 : Try.prog.cellsOf 2 = 1 := by kernel_rfl
theorem cel_v3 : Try.prog.cellsOf 70 = 3 := by kernel_rfl
theorem part_i64 (xs : Array Value) (off : Nat) (v : Value) (w : World) (h : xs[off]? = some v) : (part 2 xs off).run Try.prog w = .ok v w := run_part_plain w (by kernel_rfl) h
theorem eq_i64 (d : Nat) (x : Int) (w : World) : (Op.equalIn (d + 1) 2 (.int .i64 x) (.int .i64 x)).run Try.prog w = .ok true w := by
  rw [run_equalIn_int w d 2 .i64 .i64 x x Try.underlying2]
  simp
theorem eq_v3 (d : Nat) (T : TypeId) (hT : Try.prog.underlying T = some (.array 3 2)) (x0 x1 x2 : Int) (w : World) : (Op.equalIn (d + 2) T (.agg #[.int .i64 x0, .int .i64 x1, .int .i64 x2]) (.agg #[.int .i64 x0, .int .i64 x1, .int .i64 x2])).run Try.prog w = .ok true w := by
  obtain ⟨i, hi⟩ := info_i64m
  have hc := cel_i64
  rw [show d + 2 = (d + 1) + 1 from rfl, run_equalIn_array w (d + 1) _ _ hT hi, hc, show List.range 3 = [0, 1, 2] from rfl]
  have p0 : (part 2 #[.int .i64 x0, .int .i64 x1, .int .i64 x2] 0).run Try.prog w = .ok (.int .i64 x0) w := part_i64 _ _ _ w rfl
  have p1 : (part 2 #[.int .i64 x0, .int .i64 x1, .int .i64 x2] 1).run Try.prog w = .ok (.int .i64 x1) w := part_i64 _ _ _ w rfl
  have p2 : (part 2 #[.int .i64 x0, .int .i64 x1, .int .i64 x2] 2).run Try.prog w = .ok (.int .i64 x2) w := part_i64 _ _ _ w rfl
  simp [Op.eqItems, p0, p1, p2, eq_i64]
theorem part_v3 (xs : Array Value) (off : Nat) (w : World) (ys : Array Value) (h : xs.extract off (off + 3) = ys) : (part 70 xs off).run Try.prog w = .ok (.agg ys) w := by
  obtain ⟨i, hi⟩ := info_v3
  have hc := cel_v3
  subst h
  simp [part, isAgg, run_underlying Try.underlying70, run_sizeOf w hi, hc]
theorem eq_m9 (d : Nat) (T : TypeId) (hT : Try.prog.underlying T = some (.array 3 70)) (x0 x1 x2 x3 x4 x5 x6 x7 x8 : Int) (w : World) : (Op.equalIn (d + 3) T (.agg #[.int .i64 x0, .int .i64 x1, .int .i64 x2, .int .i64 x3, .int .i64 x4, .int .i64 x5, .int .i64 x6, .int .i64 x7, .int .i64 x8]) (.agg #[.int .i64 x0, .int .i64 x1, .int .i64 x2, .int .i64 x3, .int .i64 x4, .int .i64 x5, .int .i64 x6, .int .i64 x7, .int .i64 x8])).run Try.prog w = .ok true w := by
  obtain ⟨i, hi⟩ := info_v3
  have hc := cel_v3
  rw [show d + 3 = (d + 2) + 1 from rfl, run_equalIn_array w (d + 2) _ _ hT hi, hc, show List.range 3 = [0, 1, 2] from rfl]
  have p0 : (part 70 #[.int .i64 x0, .int .i64 x1, .int .i64 x2, .int .i64 x3, .int .i64 x4, .int .i64 x5, .int .i64 x6, .int .i64 x7, .int .i64 x8] 0).run Try.prog w = .ok (.agg #[.int .i64 x0, .int .i64 x1, .int .i64 x2]) w := part_v3 _ _ w #[.int .i64 x0, .int .i64 x1, .int .i64 x2] (by rfl)
  have p1 : (part 70 #[.int .i64 x0, .int .i64 x1, .int .i64 x2, .int .i64 x3, .int .i64 x4, .int .i64 x5, .int .i64 x6, .int .i64 x7, .int .i64 x8] 3).run Try.prog w = .ok (.agg #[.int .i64 x3, .int .i64 x4, .int .i64 x5]) w := part_v3 _ _ w #[.int .i64 x3, .int .i64 x4, .int .i64 x5] (by rfl)
  have p2 : (part 70 #[.int .i64 x0, .int .i64 x1, .int .i64 x2, .int .i64 x3, .int .i64 x4, .int .i64 x5, .int .i64 x6, .int .i64 x7, .int .i64 x8] 6).run Try.prog w = .ok (.agg #[.int .i64 x6, .int .i64 x7, .int .i64 x8]) w := part_v3 _ _ w #[.int .i64 x6, .int .i64 x7, .int .i64 x8] (by rfl)
  simp [Op.eqItems, p0, p1, p2, eq_v3 d 70 Try.underlying70]
theorem meq (x0 x1 x2 x3 x4 x5 x6 x7 x8 : Int) (w : World) : (Op.equalIn 10000 72 (.agg #[.int .i64 x0, .int .i64 x1, .int .i64 x2, .int .i64 x3, .int .i64 x4, .int .i64 x5, .int .i64 x6, .int .i64 x7, .int .i64 x8]) (.agg #[.int .i64 x0, .int .i64 x1, .int .i64 x2, .int .i64 x3, .int .i64 x4, .int .i64 x5, .int .i64 x6, .int .i64 x7, .int .i64 x8])).run Try.prog w = .ok true w := eq_m9 9997 72 Try.underlying72 _ _ _ _ _ _ _ _ _ w
theorem veq (x0 x1 x2 : Int) (w : World) : (Op.equalIn 10000 80 (.agg #[.int .i64 x0, .int .i64 x1, .int .i64 x2]) (.agg #[.int .i64 x0, .int .i64 x1, .int .i64 x2])).run Try.prog w = .ok true w := eq_v3 9998 80 Try.underlying80 _ _ _ w
end Go.Proofs.Ytaijkngdelolgaa
