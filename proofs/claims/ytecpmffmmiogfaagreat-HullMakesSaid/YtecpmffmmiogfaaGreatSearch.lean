/- sort.Search over a function value that reads and makes memory: the least place at which it is true. -/
import Derived.Test.YtecpmffmmiogfaaGreatMgWg
import Derived.Shelf.Abstract
namespace Go.Proofs.YtecpmffmmiogfaaGreat
open Go.ChangeShapes Go.WideShapes Go.ChangeAt Go.RowKit
set_option linter.unusedVariables false
set_option linter.unusedSimpArgs false

/-- Where a predicate that stays true becomes true. -/
theorem least_place (p : Nat → Bool) : ∀ n : Nat, (∀ a b, a ≤ b → b < n → p a = true → p b = true) → ∃ r, r ≤ n ∧ (∀ t, t < r → p t = false) ∧ ∀ t, r ≤ t → t < n → p t = true
  | 0, _ => ⟨0, Nat.le_refl _, fun t h => absurd h (Nat.not_lt_zero _), fun t _ h => absurd h (Nat.not_lt_zero _)⟩
  | n + 1, hm => by
    obtain ⟨r, h1, h2, h3⟩ := least_place p n (fun a b ab hb => hm a b ab (by omega))
    by_cases hr : r < n
    · exact ⟨r, by omega, h2, fun t a b => by
        by_cases e : t < n
        · exact h3 t a e
        · obtain rfl : t = n := by omega
          exact hm r t a b (h3 r (Nat.le_refl _) hr)⟩
    · obtain rfl : r = n := by omega
      cases hp : p r
      · exact ⟨r + 1, Nat.le_refl _, fun t ht => by
          by_cases e : t < r
          · exact h2 t e
          · obtain rfl : t = r := by omega
            exact hp, fun t a b => by omega⟩
      · exact ⟨r, by omega, h2, fun t a b => by
          obtain rfl : t = r := by omega
          exact hp⟩

set_option maxHeartbeats 4000000 in
theorem search_any (g : Nat) (cb : Array Value) (n r : Nat) (p : Nat → Bool) (w : World) (eg : ∀ args w, (callFunc g args).run Tryz.prog w = .ok (.enter g args) w) (hn : n ≤ 1099511627775) (hr : r ≤ n)
    (h1 : ∀ t, t < r → p t = false) (h2 : ∀ t, r ≤ t → t < n → p t = true)
    (hf : ∀ (u : World) (i : Nat), i < n → Below w.heap.size w u → Calls Tryz.prog g (#[.int .i64 i] ++ cb) u fun e u' => e = .returned (.bool (p i)) ∧ Below u.heap.size u u') :
    Calls Tryz.prog 31 #[.int .i64 n, .func (.func g) #[] cb] w fun e w' => e = .returned (.int .i64 r) ∧ Below w.heap.size w w' := by
  have HF := Lib.hid hf
  have H1 := Lib.hid h1
  have H2 := Lib.hid h2
  clear hf h1 h2
  go_enter Tryz.func31, Tryz.ntmps31
  go_wp2
  go_loopw [5, 6] (fun a b v => ∃ (lo hi : Nat), lo ≤ r ∧ r ≤ hi ∧ hi ≤ n ∧ a = .int .i64 lo ∧ b = .int .i64 hi ∧ Below w.heap.size w v) (fun a b _ => (intOf b - intOf a).toNat)
  case atStart => exact ⟨0, n, by omega, hr, Nat.le_refl _, rfl, rfl, Below.refl _ _⟩
  case round =>
    obtain ⟨lo, hi, hlo, hhi, hin, rfl, rfl, hb⟩ := hrel
    by_cases hlt : lo < hi
    · have hc := HF.out
      replace hc := hc wr ((lo + hi) / 2) (by omega) hb
      rw [show (((lo + hi) / 2 : Nat) : Int) = ((lo : Int) + (hi : Int)) / 2 by omega] at hc
      cases hp : p ((lo + hi) / 2) <;> rw [hp] at hc
      · have hlo' : (lo + hi) / 2 < r := by
          by_cases h : (lo + hi) / 2 < r
          · exact h
          · have := H2.out ((lo + hi) / 2) (by omega) (by omega)
            rw [hp] at this; cases this
        clear hp
        go_wp2_with (go_at_fn g; refine hc.mono ?_; rintro e w' ⟨rfl, hb1⟩)
        go_roundw
        case rel => exact ⟨(lo + hi) / 2 + 1, hi, by omega, hhi, hin, by rw [show ((lo : Int) + (hi : Int)) / 2 + 1 = (((lo + hi) / 2 + 1 : Nat) : Int) by omega], rfl, hb.trans (hb1.mono hb.size)⟩
        case measure => simp [intOf]; omega
      · have hhi' : r ≤ (lo + hi) / 2 := by
          by_cases h : r ≤ (lo + hi) / 2
          · exact h
          · have := H1.out ((lo + hi) / 2) (by omega)
            rw [hp] at this; cases this
        clear hp
        go_wp2_with (go_at_fn g; refine hc.mono ?_; rintro e w' ⟨rfl, hb1⟩)
        go_roundw
        case rel => exact ⟨lo, (lo + hi) / 2, hlo, hhi', by omega, rfl, by rw [show ((lo : Int) + (hi : Int)) / 2 = (((lo + hi) / 2 : Nat) : Int) by omega], hb.trans (hb1.mono hb.size)⟩
        case measure => simp [intOf]; omega
    · obtain rfl : lo = r := by omega
      go_wp2
      go_ret
      exact ⟨rfl, hb⟩
end Go.Proofs.YtecpmffmmiogfaaGreat
