/- Contracts of math/bits: Mul64, Len64, LeadingZeros64. -/
import Derived.Test.YtfejdbmamaggpaaDoorBase
import Derived.Test.YtfejdbmamaggpaaDoorDivMath
import Derived.Laws.MathBits
import Derived.Lib.BitFns
import Derived.Lib.ItoaNum
namespace Go.Proofs.YtfejdbmamaggpaaDoor
open Go.ChangeShapes Go.WideShapes Go.ChangeAt Go.RowKit
set_option linter.unusedVariables false

theorem ret_uu {k l : IntKind} {a b c d : Int} (h : a = b) (g : c = d) : Ending.returned (.tuple #[.int k a, .int l c]) = .returned (.tuple #[.int k b, .int l d]) := by rw [h, g]

set_option maxHeartbeats 400000 in
theorem mul64_any (x y : Int) (w : World) (hx0 : 0 ≤ x) (hx : x ≤ 18446744073709551615) (hy0 : 0 ≤ y) (hy : y ≤ 18446744073709551615) :
    Calls Tryd.prog 143 #[.int .u64 x, .int .u64 y] w fun e w' => e = .returned (.tuple #[.int .u64 (x * y / 18446744073709551616), .int .u64 (x * y % 18446744073709551616)]) ∧ w = w' := by
  go_enter Tryd.func143, Tryd.ntmps143
  go_wp2
  go_ret2
  refine ⟨ret_uu ?_ ?_, rfl⟩
  · simp (disch := omega) only [IntKind.wrap_u64, and_low32]
    exact mul64_arith x y hx0 (by omega) hy0 (by omega)
  · exact IntKind.wrap_u64 _

theorem len_way (x z : Int) (k : Nat) (h0 : 0 ≤ x) (hx : x ≤ 18446744073709551615) (hz : z.toNat = x.toNat / 2 ^ k) (hz0 : 0 ≤ z) (hz1 : z ≤ 255) (hk : k = 0 ∨ 2 ^ k ≤ x.toNat) :
    (k : Int) + Lib.len8 z = Lib.bitLen x.toNat ∧ 0 ≤ Lib.len8 z ∧ Lib.len8 z ≤ 8 := by
  have e := Lib.len8_of z hz0 hz1
  have l := Lib.bitLen_le8' z hz0 hz1
  rw [e]
  refine ⟨?_, by omega, by omega⟩
  rcases hk with rfl | hk
  · simp at hz; rw [hz]; simp
  · rw [Lib.bitLen_shift k x.toNat hk (by omega), ← hz]; omega

theorem len8_get (z : Int) (h : z.toNat < Lib.len8tab.size) : ((Lib.len8tab[z.toNat]'h).toNat : Int) = Lib.len8 z := by
  unfold Lib.len8
  rw [show Lib.len8tab[z.toNat]? = some (Lib.len8tab[z.toNat]'h) from by simp [h]]
  rfl

set_option maxRecDepth 1000000 in
set_option maxHeartbeats 1000000 in
theorem len64_any (x : Int) (w : World) (hx0 : 0 ≤ x) (hx : x ≤ 18446744073709551615) :
    Calls Tryd.prog 173 #[.int .u64 x] w fun e w' => e = .returned (.int .i64 (Lib.bitLen x.toNat)) ∧ w = w' := by
  have hsz : 255 < Lib.len8tab.size := by rw [Lib.len8tab_size]; omega
  go_enter Tryd.func173, Tryd.ntmps173
  go_wp2
  all_goals
    go_ret
    refine ⟨ret_int ?_, rfl⟩
    first
      | (have h := len_way x (x / 4294967296 / 65536 / 256) 56 hx0 hx (by omega) (by omega) (by omega) (by first | exact .inl rfl | (right; omega))
         have g := len8_get (x / 4294967296 / 65536 / 256) (by omega)
         unfold wrap64
         omega)
      | (have h := len_way x (x / 4294967296 / 65536) 48 hx0 hx (by omega) (by omega) (by omega) (by first | exact .inl rfl | (right; omega))
         have g := len8_get (x / 4294967296 / 65536) (by omega)
         unfold wrap64
         omega)
      | (have h := len_way x (x / 4294967296 / 256) 40 hx0 hx (by omega) (by omega) (by omega) (by first | exact .inl rfl | (right; omega))
         have g := len8_get (x / 4294967296 / 256) (by omega)
         unfold wrap64
         omega)
      | (have h := len_way x (x / 4294967296) 32 hx0 hx (by omega) (by omega) (by omega) (by first | exact .inl rfl | (right; omega))
         have g := len8_get (x / 4294967296) (by omega)
         unfold wrap64
         omega)
      | (have h := len_way x (x / 65536 / 256) 24 hx0 hx (by omega) (by omega) (by omega) (by first | exact .inl rfl | (right; omega))
         have g := len8_get (x / 65536 / 256) (by omega)
         unfold wrap64
         omega)
      | (have h := len_way x (x / 65536) 16 hx0 hx (by omega) (by omega) (by omega) (by first | exact .inl rfl | (right; omega))
         have g := len8_get (x / 65536) (by omega)
         unfold wrap64
         omega)
      | (have h := len_way x (x / 256) 8 hx0 hx (by omega) (by omega) (by omega) (by first | exact .inl rfl | (right; omega))
         have g := len8_get (x / 256) (by omega)
         unfold wrap64
         omega)
      | (have h := len_way x (x) 0 hx0 hx (by omega) (by omega) (by omega) (by first | exact .inl rfl | (right; omega))
         have g := len8_get (x) (by omega)
         unfold wrap64
         omega)
end Go.Proofs.YtfejdbmamaggpaaDoor
