/- How many ones 32 bits have. -/
import Derived.Test.YtcpmdgbogdikiaaWord1
import Derived.Test.YtcpmdgbogdikiaaReg
import Derived.Lib.BitFns
import Derived.Lib.EndianBits
namespace Go.Proofs.Ytcpmdgbogdikiaa
open Go.ChangeShapes Go.WideShapes Go.ChangeAt Go.RowKit
set_option linter.unusedVariables false
set_option linter.unusedSimpArgs false
theorem pop8_on : ∀ n : Fin 256, Lib.pop8 (n.val : Int) = onI (n.val : Int) 8 := by decide +kernel
theorem pop8_is {n : Int} (h0 : 0 ≤ n) (h1 : n ≤ 255) : Lib.pop8 n = onI n 8 := by
  have := pop8_on ⟨n.toNat, by omega⟩
  simpa [Int.toNat_of_nonneg h0] using this
theorem pop8_bd {n : Int} (h0 : 0 ≤ n) (h1 : n ≤ 255) : 0 ≤ Lib.pop8 n ∧ Lib.pop8 n ≤ 8 := by
  rw [pop8_is h0 h1]
  have := onI_bd n 8
  omega
theorem u32_mask (x : Int) (i : Nat) (hi : i ≤ 32) (h0 : 0 ≤ x) (h1 : x < 4294967296) : bits .and .u32 x (2 ^ i - 1) = x % 2 ^ i := bits_mask .u32 32 (by decide) wraps_u32 i hi x h0 h1
set_option maxRecDepth 100000 in
set_option maxHeartbeats 4000000 in
theorem ones32_any (n : Int) (h0 : 0 ≤ n) (h1 : n ≤ 4294967295) (w : World) : Calls Try.prog 32 #[.int .u32 n] w fun e w' => e = .returned (.int .i64 (Lib.pop8 (n / 16777216) + Lib.pop8 (n / 65536 % 256) + Lib.pop8 (n / 256 % 256) + Lib.pop8 (n % 256))) ∧ ∃ m, w' = w.drewN m := by
  have a0 : 0 ≤ n / 16777216 := by omega
  have a1 : n / 16777216 ≤ 255 := by omega
  have m16 : bits .and .u32 (n / 65536) 255 = n / 65536 % 256 := u32_mask _ 8 (by decide) (by omega) (by omega)
  have m8 : bits .and .u32 (n / 256) 255 = n / 256 % 256 := u32_mask _ 8 (by decide) (by omega) (by omega)
  have m0 : bits .and .u32 n 255 = n % 256 := u32_mask _ 8 (by decide) (by omega) (by omega)
  have b3 := pop8_bd a0 a1
  have b2 := pop8_bd (n := n / 65536 % 256) (by omega) (by omega)
  have b1 := pop8_bd (n := n / 256 % 256) (by omega) (by omega)
  have b0 := pop8_bd (n := n % 256) (by omega) (by omega)
  have w1 : IntKind.u8.wrap (Lib.pop8 (n / 16777216) + Lib.pop8 (n / 65536 % 256)) = Lib.pop8 (n / 16777216) + Lib.pop8 (n / 65536 % 256) := by
    generalize Lib.pop8 (n / 16777216) = x at *
    generalize Lib.pop8 (n / 65536 % 256) = y at *
    simp only [IntKind.wrap, IntKind.bits, IntKind.signed]
    simp
    omega
  have w2 : IntKind.u8.wrap (Lib.pop8 (n / 16777216) + Lib.pop8 (n / 65536 % 256) + Lib.pop8 (n / 256 % 256)) = Lib.pop8 (n / 16777216) + Lib.pop8 (n / 65536 % 256) + Lib.pop8 (n / 256 % 256) := by
    generalize Lib.pop8 (n / 16777216) = x at *
    generalize Lib.pop8 (n / 65536 % 256) = y at *
    generalize Lib.pop8 (n / 256 % 256) = z at *
    simp only [IntKind.wrap, IntKind.bits, IntKind.signed]
    simp
    omega
  have w3 : IntKind.u8.wrap (Lib.pop8 (n / 16777216) + Lib.pop8 (n / 65536 % 256) + Lib.pop8 (n / 256 % 256) + Lib.pop8 (n % 256)) = Lib.pop8 (n / 16777216) + Lib.pop8 (n / 65536 % 256) + Lib.pop8 (n / 256 % 256) + Lib.pop8 (n % 256) := by
    generalize Lib.pop8 (n / 16777216) = x at *
    generalize Lib.pop8 (n / 65536 % 256) = y at *
    generalize Lib.pop8 (n / 256 % 256) = z at *
    generalize Lib.pop8 (n % 256) = v at *
    simp only [IntKind.wrap, IntKind.bits, IntKind.signed]
    simp
    omega
  have w4 : IntKind.i64.wrap (Lib.pop8 (n / 16777216) + Lib.pop8 (n / 65536 % 256) + Lib.pop8 (n / 256 % 256) + Lib.pop8 (n % 256)) = Lib.pop8 (n / 16777216) + Lib.pop8 (n / 65536 % 256) + Lib.pop8 (n / 256 % 256) + Lib.pop8 (n % 256) := IntWalk.i64_in _ ⟨by omega, by omega⟩
  clear b0 b1 b2 b3
  go_enter Try.func32, Try.ntmps32
  go_wp2
  go_quiet (fail)
  go_wp2
  go_ret
  exact ⟨rfl, _, rfl⟩
end Go.Proofs.Ytcpmdgbogdikiaa
