/- What == of arrays of numbers says, of any. -/
import Derived.Test.YtakocggclopngaaMatEq
namespace Go.Proofs.Ytakocggclopngaa
open Go.ChangeShapes Go.WideShapes Go.ChangeAt Go.RowKit
set_option linter.unusedVariables false
set_option linter.unusedSimpArgs false

theorem eqg_i64 (d : Nat) (x y : Int) (w : World) : (Op.equalIn (d + 1) 2 (.int .i64 x) (.int .i64 y)).run Try.prog w = .ok (x == y) w := by
  rw [run_equalIn_int w d 2 .i64 .i64 x y Try.underlying2]
theorem eqg_v3 (d : Nat) (T : TypeId) (hT : Try.prog.underlying T = some (.array 3 2)) (x0 x1 x2 y0 y1 y2 : Int) (w : World) : (Op.equalIn (d + 2) T (.agg #[.int .i64 x0, .int .i64 x1, .int .i64 x2]) (.agg #[.int .i64 y0, .int .i64 y1, .int .i64 y2])).run Try.prog w = .ok ((x0 == y0) && (x1 == y1) && (x2 == y2)) w := by
  obtain ⟨i, hi⟩ := info_i64m
  have hc := cel_i64
  rw [show d + 2 = (d + 1) + 1 from rfl, run_equalIn_array w (d + 1) _ _ hT hi, hc, show List.range 3 = [0, 1, 2] from rfl]
  have x0_ : (part 2 #[.int .i64 x0, .int .i64 x1, .int .i64 x2] 0).run Try.prog w = .ok (.int .i64 x0) w := part_i64 _ _ _ w rfl
  have x1_ : (part 2 #[.int .i64 x0, .int .i64 x1, .int .i64 x2] 1).run Try.prog w = .ok (.int .i64 x1) w := part_i64 _ _ _ w rfl
  have x2_ : (part 2 #[.int .i64 x0, .int .i64 x1, .int .i64 x2] 2).run Try.prog w = .ok (.int .i64 x2) w := part_i64 _ _ _ w rfl
  have y0_ : (part 2 #[.int .i64 y0, .int .i64 y1, .int .i64 y2] 0).run Try.prog w = .ok (.int .i64 y0) w := part_i64 _ _ _ w rfl
  have y1_ : (part 2 #[.int .i64 y0, .int .i64 y1, .int .i64 y2] 1).run Try.prog w = .ok (.int .i64 y1) w := part_i64 _ _ _ w rfl
  have y2_ : (part 2 #[.int .i64 y0, .int .i64 y1, .int .i64 y2] 2).run Try.prog w = .ok (.int .i64 y2) w := part_i64 _ _ _ w rfl
  cases h0 : (x0 == y0)
  · simp [Op.eqItems, x0_, y0_, x1_, y1_, x2_, y2_, eqg_i64, h0]
  cases h1 : (x1 == y1)
  · simp [Op.eqItems, x0_, y0_, x1_, y1_, x2_, y2_, eqg_i64, h0, h1]
  cases h2 : (x2 == y2)
  · simp [Op.eqItems, x0_, y0_, x1_, y1_, x2_, y2_, eqg_i64, h0, h1, h2]
  simp [Op.eqItems, x0_, y0_, x1_, y1_, x2_, y2_, eqg_i64, h0, h1, h2]
theorem eqg_n9 (d : Nat) (T : TypeId) (hT : Try.prog.underlying T = some (.array 9 2)) (x0 x1 x2 x3 x4 x5 x6 x7 x8 y0 y1 y2 y3 y4 y5 y6 y7 y8 : Int) (w : World) : (Op.equalIn (d + 2) T (.agg #[.int .i64 x0, .int .i64 x1, .int .i64 x2, .int .i64 x3, .int .i64 x4, .int .i64 x5, .int .i64 x6, .int .i64 x7, .int .i64 x8]) (.agg #[.int .i64 y0, .int .i64 y1, .int .i64 y2, .int .i64 y3, .int .i64 y4, .int .i64 y5, .int .i64 y6, .int .i64 y7, .int .i64 y8])).run Try.prog w = .ok ((x0 == y0) && (x1 == y1) && (x2 == y2) && (x3 == y3) && (x4 == y4) && (x5 == y5) && (x6 == y6) && (x7 == y7) && (x8 == y8)) w := by
  obtain ⟨i, hi⟩ := info_i64m
  have hc := cel_i64
  rw [show d + 2 = (d + 1) + 1 from rfl, run_equalIn_array w (d + 1) _ _ hT hi, hc, show List.range 9 = [0, 1, 2, 3, 4, 5, 6, 7, 8] from rfl]
  have x0_ : (part 2 #[.int .i64 x0, .int .i64 x1, .int .i64 x2, .int .i64 x3, .int .i64 x4, .int .i64 x5, .int .i64 x6, .int .i64 x7, .int .i64 x8] 0).run Try.prog w = .ok (.int .i64 x0) w := part_i64 _ _ _ w rfl
  have x1_ : (part 2 #[.int .i64 x0, .int .i64 x1, .int .i64 x2, .int .i64 x3, .int .i64 x4, .int .i64 x5, .int .i64 x6, .int .i64 x7, .int .i64 x8] 1).run Try.prog w = .ok (.int .i64 x1) w := part_i64 _ _ _ w rfl
  have x2_ : (part 2 #[.int .i64 x0, .int .i64 x1, .int .i64 x2, .int .i64 x3, .int .i64 x4, .int .i64 x5, .int .i64 x6, .int .i64 x7, .int .i64 x8] 2).run Try.prog w = .ok (.int .i64 x2) w := part_i64 _ _ _ w rfl
  have x3_ : (part 2 #[.int .i64 x0, .int .i64 x1, .int .i64 x2, .int .i64 x3, .int .i64 x4, .int .i64 x5, .int .i64 x6, .int .i64 x7, .int .i64 x8] 3).run Try.prog w = .ok (.int .i64 x3) w := part_i64 _ _ _ w rfl
  have x4_ : (part 2 #[.int .i64 x0, .int .i64 x1, .int .i64 x2, .int .i64 x3, .int .i64 x4, .int .i64 x5, .int .i64 x6, .int .i64 x7, .int .i64 x8] 4).run Try.prog w = .ok (.int .i64 x4) w := part_i64 _ _ _ w rfl
  have x5_ : (part 2 #[.int .i64 x0, .int .i64 x1, .int .i64 x2, .int .i64 x3, .int .i64 x4, .int .i64 x5, .int .i64 x6, .int .i64 x7, .int .i64 x8] 5).run Try.prog w = .ok (.int .i64 x5) w := part_i64 _ _ _ w rfl
  have x6_ : (part 2 #[.int .i64 x0, .int .i64 x1, .int .i64 x2, .int .i64 x3, .int .i64 x4, .int .i64 x5, .int .i64 x6, .int .i64 x7, .int .i64 x8] 6).run Try.prog w = .ok (.int .i64 x6) w := part_i64 _ _ _ w rfl
  have x7_ : (part 2 #[.int .i64 x0, .int .i64 x1, .int .i64 x2, .int .i64 x3, .int .i64 x4, .int .i64 x5, .int .i64 x6, .int .i64 x7, .int .i64 x8] 7).run Try.prog w = .ok (.int .i64 x7) w := part_i64 _ _ _ w rfl
  have x8_ : (part 2 #[.int .i64 x0, .int .i64 x1, .int .i64 x2, .int .i64 x3, .int .i64 x4, .int .i64 x5, .int .i64 x6, .int .i64 x7, .int .i64 x8] 8).run Try.prog w = .ok (.int .i64 x8) w := part_i64 _ _ _ w rfl
  have y0_ : (part 2 #[.int .i64 y0, .int .i64 y1, .int .i64 y2, .int .i64 y3, .int .i64 y4, .int .i64 y5, .int .i64 y6, .int .i64 y7, .int .i64 y8] 0).run Try.prog w = .ok (.int .i64 y0) w := part_i64 _ _ _ w rfl
  have y1_ : (part 2 #[.int .i64 y0, .int .i64 y1, .int .i64 y2, .int .i64 y3, .int .i64 y4, .int .i64 y5, .int .i64 y6, .int .i64 y7, .int .i64 y8] 1).run Try.prog w = .ok (.int .i64 y1) w := part_i64 _ _ _ w rfl
  have y2_ : (part 2 #[.int .i64 y0, .int .i64 y1, .int .i64 y2, .int .i64 y3, .int .i64 y4, .int .i64 y5, .int .i64 y6, .int .i64 y7, .int .i64 y8] 2).run Try.prog w = .ok (.int .i64 y2) w := part_i64 _ _ _ w rfl
  have y3_ : (part 2 #[.int .i64 y0, .int .i64 y1, .int .i64 y2, .int .i64 y3, .int .i64 y4, .int .i64 y5, .int .i64 y6, .int .i64 y7, .int .i64 y8] 3).run Try.prog w = .ok (.int .i64 y3) w := part_i64 _ _ _ w rfl
  have y4_ : (part 2 #[.int .i64 y0, .int .i64 y1, .int .i64 y2, .int .i64 y3, .int .i64 y4, .int .i64 y5, .int .i64 y6, .int .i64 y7, .int .i64 y8] 4).run Try.prog w = .ok (.int .i64 y4) w := part_i64 _ _ _ w rfl
  have y5_ : (part 2 #[.int .i64 y0, .int .i64 y1, .int .i64 y2, .int .i64 y3, .int .i64 y4, .int .i64 y5, .int .i64 y6, .int .i64 y7, .int .i64 y8] 5).run Try.prog w = .ok (.int .i64 y5) w := part_i64 _ _ _ w rfl
  have y6_ : (part 2 #[.int .i64 y0, .int .i64 y1, .int .i64 y2, .int .i64 y3, .int .i64 y4, .int .i64 y5, .int .i64 y6, .int .i64 y7, .int .i64 y8] 6).run Try.prog w = .ok (.int .i64 y6) w := part_i64 _ _ _ w rfl
  have y7_ : (part 2 #[.int .i64 y0, .int .i64 y1, .int .i64 y2, .int .i64 y3, .int .i64 y4, .int .i64 y5, .int .i64 y6, .int .i64 y7, .int .i64 y8] 7).run Try.prog w = .ok (.int .i64 y7) w := part_i64 _ _ _ w rfl
  have y8_ : (part 2 #[.int .i64 y0, .int .i64 y1, .int .i64 y2, .int .i64 y3, .int .i64 y4, .int .i64 y5, .int .i64 y6, .int .i64 y7, .int .i64 y8] 8).run Try.prog w = .ok (.int .i64 y8) w := part_i64 _ _ _ w rfl
  cases h0 : (x0 == y0)
  · simp [Op.eqItems, x0_, y0_, x1_, y1_, x2_, y2_, x3_, y3_, x4_, y4_, x5_, y5_, x6_, y6_, x7_, y7_, x8_, y8_, eqg_i64, h0]
  cases h1 : (x1 == y1)
  · simp [Op.eqItems, x0_, y0_, x1_, y1_, x2_, y2_, x3_, y3_, x4_, y4_, x5_, y5_, x6_, y6_, x7_, y7_, x8_, y8_, eqg_i64, h0, h1]
  cases h2 : (x2 == y2)
  · simp [Op.eqItems, x0_, y0_, x1_, y1_, x2_, y2_, x3_, y3_, x4_, y4_, x5_, y5_, x6_, y6_, x7_, y7_, x8_, y8_, eqg_i64, h0, h1, h2]
  cases h3 : (x3 == y3)
  · simp [Op.eqItems, x0_, y0_, x1_, y1_, x2_, y2_, x3_, y3_, x4_, y4_, x5_, y5_, x6_, y6_, x7_, y7_, x8_, y8_, eqg_i64, h0, h1, h2, h3]
  cases h4 : (x4 == y4)
  · simp [Op.eqItems, x0_, y0_, x1_, y1_, x2_, y2_, x3_, y3_, x4_, y4_, x5_, y5_, x6_, y6_, x7_, y7_, x8_, y8_, eqg_i64, h0, h1, h2, h3, h4]
  cases h5 : (x5 == y5)
  · simp [Op.eqItems, x0_, y0_, x1_, y1_, x2_, y2_, x3_, y3_, x4_, y4_, x5_, y5_, x6_, y6_, x7_, y7_, x8_, y8_, eqg_i64, h0, h1, h2, h3, h4, h5]
  cases h6 : (x6 == y6)
  · simp [Op.eqItems, x0_, y0_, x1_, y1_, x2_, y2_, x3_, y3_, x4_, y4_, x5_, y5_, x6_, y6_, x7_, y7_, x8_, y8_, eqg_i64, h0, h1, h2, h3, h4, h5, h6]
  cases h7 : (x7 == y7)
  · simp [Op.eqItems, x0_, y0_, x1_, y1_, x2_, y2_, x3_, y3_, x4_, y4_, x5_, y5_, x6_, y6_, x7_, y7_, x8_, y8_, eqg_i64, h0, h1, h2, h3, h4, h5, h6, h7]
  cases h8 : (x8 == y8)
  · simp [Op.eqItems, x0_, y0_, x1_, y1_, x2_, y2_, x3_, y3_, x4_, y4_, x5_, y5_, x6_, y6_, x7_, y7_, x8_, y8_, eqg_i64, h0, h1, h2, h3, h4, h5, h6, h7, h8]
  simp [Op.eqItems, x0_, y0_, x1_, y1_, x2_, y2_, x3_, y3_, x4_, y4_, x5_, y5_, x6_, y6_, x7_, y7_, x8_, y8_, eqg_i64, h0, h1, h2, h3, h4, h5, h6, h7, h8]
theorem eqg_m9 (d : Nat) (T : TypeId) (hT : Try.prog.underlying T = some (.array 3 54)) (x0 x1 x2 x3 x4 x5 x6 x7 x8 y0 y1 y2 y3 y4 y5 y6 y7 y8 : Int) (w : World) : (Op.equalIn (d + 3) T (.agg #[.int .i64 x0, .int .i64 x1, .int .i64 x2, .int .i64 x3, .int .i64 x4, .int .i64 x5, .int .i64 x6, .int .i64 x7, .int .i64 x8]) (.agg #[.int .i64 y0, .int .i64 y1, .int .i64 y2, .int .i64 y3, .int .i64 y4, .int .i64 y5, .int .i64 y6, .int .i64 y7, .int .i64 y8])).run Try.prog w = .ok (((x0 == y0) && (x1 == y1) && (x2 == y2)) && ((x3 == y3) && (x4 == y4) && (x5 == y5)) && ((x6 == y6) && (x7 == y7) && (x8 == y8))) w := by
  obtain ⟨i, hi⟩ := info_v3
  have hc := cel_v3
  rw [show d + 3 = (d + 2) + 1 from rfl, run_equalIn_array w (d + 2) _ _ hT hi, hc, show List.range 3 = [0, 1, 2] from rfl]
  have x0_ : (part 54 #[.int .i64 x0, .int .i64 x1, .int .i64 x2, .int .i64 x3, .int .i64 x4, .int .i64 x5, .int .i64 x6, .int .i64 x7, .int .i64 x8] 0).run Try.prog w = .ok (.agg #[.int .i64 x0, .int .i64 x1, .int .i64 x2]) w := part_v3 _ _ w #[.int .i64 x0, .int .i64 x1, .int .i64 x2] (by rfl)
  have x1_ : (part 54 #[.int .i64 x0, .int .i64 x1, .int .i64 x2, .int .i64 x3, .int .i64 x4, .int .i64 x5, .int .i64 x6, .int .i64 x7, .int .i64 x8] 3).run Try.prog w = .ok (.agg #[.int .i64 x3, .int .i64 x4, .int .i64 x5]) w := part_v3 _ _ w #[.int .i64 x3, .int .i64 x4, .int .i64 x5] (by rfl)
  have x2_ : (part 54 #[.int .i64 x0, .int .i64 x1, .int .i64 x2, .int .i64 x3, .int .i64 x4, .int .i64 x5, .int .i64 x6, .int .i64 x7, .int .i64 x8] 6).run Try.prog w = .ok (.agg #[.int .i64 x6, .int .i64 x7, .int .i64 x8]) w := part_v3 _ _ w #[.int .i64 x6, .int .i64 x7, .int .i64 x8] (by rfl)
  have y0_ : (part 54 #[.int .i64 y0, .int .i64 y1, .int .i64 y2, .int .i64 y3, .int .i64 y4, .int .i64 y5, .int .i64 y6, .int .i64 y7, .int .i64 y8] 0).run Try.prog w = .ok (.agg #[.int .i64 y0, .int .i64 y1, .int .i64 y2]) w := part_v3 _ _ w #[.int .i64 y0, .int .i64 y1, .int .i64 y2] (by rfl)
  have y1_ : (part 54 #[.int .i64 y0, .int .i64 y1, .int .i64 y2, .int .i64 y3, .int .i64 y4, .int .i64 y5, .int .i64 y6, .int .i64 y7, .int .i64 y8] 3).run Try.prog w = .ok (.agg #[.int .i64 y3, .int .i64 y4, .int .i64 y5]) w := part_v3 _ _ w #[.int .i64 y3, .int .i64 y4, .int .i64 y5] (by rfl)
  have y2_ : (part 54 #[.int .i64 y0, .int .i64 y1, .int .i64 y2, .int .i64 y3, .int .i64 y4, .int .i64 y5, .int .i64 y6, .int .i64 y7, .int .i64 y8] 6).run Try.prog w = .ok (.agg #[.int .i64 y6, .int .i64 y7, .int .i64 y8]) w := part_v3 _ _ w #[.int .i64 y6, .int .i64 y7, .int .i64 y8] (by rfl)
  have q0 := eqg_v3 d 54 Try.underlying54 x0 x1 x2 y0 y1 y2 w
  generalize ((x0 == y0) && (x1 == y1) && (x2 == y2)) = b0 at *
  have q1 := eqg_v3 d 54 Try.underlying54 x3 x4 x5 y3 y4 y5 w
  generalize ((x3 == y3) && (x4 == y4) && (x5 == y5)) = b1 at *
  have q2 := eqg_v3 d 54 Try.underlying54 x6 x7 x8 y6 y7 y8 w
  generalize ((x6 == y6) && (x7 == y7) && (x8 == y8)) = b2 at *
  cases b0
  · simp [Op.eqItems, x0_, y0_, q0, x1_, y1_, q1, x2_, y2_, q2]
  cases b1
  · simp [Op.eqItems, x0_, y0_, q0, x1_, y1_, q1, x2_, y2_, q2]
  cases b2 <;> simp [Op.eqItems, x0_, y0_, q0, x1_, y1_, q1, x2_, y2_, q2]
theorem meqg (x0 x1 x2 x3 x4 x5 x6 x7 x8 y0 y1 y2 y3 y4 y5 y6 y7 y8 : Int) (w : World) : (Op.equalIn 10000 56 (.agg #[.int .i64 x0, .int .i64 x1, .int .i64 x2, .int .i64 x3, .int .i64 x4, .int .i64 x5, .int .i64 x6, .int .i64 x7, .int .i64 x8]) (.agg #[.int .i64 y0, .int .i64 y1, .int .i64 y2, .int .i64 y3, .int .i64 y4, .int .i64 y5, .int .i64 y6, .int .i64 y7, .int .i64 y8])).run Try.prog w = .ok (((x0 == y0) && (x1 == y1) && (x2 == y2)) && ((x3 == y3) && (x4 == y4) && (x5 == y5)) && ((x6 == y6) && (x7 == y7) && (x8 == y8))) w := eqg_m9 9997 56 Try.underlying56 _ _ _ _ _ _ _ _ _ _ _ _ _ _ _ _ _ _ w
theorem neqg (x0 x1 x2 x3 x4 x5 x6 x7 x8 y0 y1 y2 y3 y4 y5 y6 y7 y8 : Int) (w : World) : (Op.equalIn 10000 58 (.agg #[.int .i64 x0, .int .i64 x1, .int .i64 x2, .int .i64 x3, .int .i64 x4, .int .i64 x5, .int .i64 x6, .int .i64 x7, .int .i64 x8]) (.agg #[.int .i64 y0, .int .i64 y1, .int .i64 y2, .int .i64 y3, .int .i64 y4, .int .i64 y5, .int .i64 y6, .int .i64 y7, .int .i64 y8])).run Try.prog w = .ok ((x0 == y0) && (x1 == y1) && (x2 == y2) && (x3 == y3) && (x4 == y4) && (x5 == y5) && (x6 == y6) && (x7 == y7) && (x8 == y8)) w := eqg_n9 9998 58 Try.underlying58 _ _ _ _ _ _ _ _ _ _ _ _ _ _ _ _ _ _ w
end Go.Proofs.Ytakocggclopngaa
