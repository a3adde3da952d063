/- The checksum of sixteen bits, in the code's way and the document's: the same; a step can be turned back. -/
import Derived.Test.YtpcbnoefgknihaaBase
namespace Go.Proofs.Ytpcbnoefgknihaa
open Go.ChangeShapes Go.WideShapes Go.ChangeAt Go.RowKit
set_option linter.unusedVariables false
set_option linter.unusedSimpArgs false
/-- The code's turn of one bit. -/
def crS (s : Nat) : Nat := if s / 32768 = 1 then (s * 2 % 65536) ^^^ 4129 else s * 2 % 65536
def crT : Nat → Nat → Nat
  | 0, s => s
  | n + 1, s => crS (crT n s)
def crB (s x : Nat) : Nat := crT 8 (s ^^^ (x * 256))
/-- The document's. -/
def rfS (s bit : Nat) : Nat := if s / 32768 = bit then s * 2 % 65536 else (s * 2 % 65536) ^^^ 4129
def rfT (x : Nat) : Nat → Nat → Nat
  | 0, s => s
  | n + 1, s => rfS (rfT x n s) (x / 2 ^ (7 - n) % 2)
theorem crS_lt (s : Nat) : crS s < 65536 := by
  unfold crS
  split
  · exact Nat.xor_lt_two_pow (n := 16) (by omega) (by decide)
  · omega
theorem rfS_lt (s b : Nat) : rfS s b < 65536 := by
  unfold rfS
  split
  · omega
  · exact Nat.xor_lt_two_pow (n := 16) (by omega) (by decide)
theorem crT_lt {s : Nat} (h : s < 65536) : ∀ n, crT n s < 65536
  | 0 => h
  | n + 1 => crS_lt _
theorem rfT_lt {s x : Nat} (h : s < 65536) : ∀ n, rfT x n s < 65536
  | 0 => h
  | n + 1 => rfS_lt _ _
theorem xor_dbl (a b : Nat) : (a ^^^ b) * 2 % 65536 = (a * 2 % 65536) ^^^ (b * 2 % 65536) := by
  have h := Nat.xor_mod_two_pow (n := 16) (a := a <<< 1) (b := b <<< 1)
  rw [← Nat.shiftLeft_xor_distrib] at h
  simpa [Nat.shiftLeft_eq] using h
theorem xor_div (a b : Nat) : (a ^^^ b) / 32768 = (a / 32768) ^^^ (b / 32768) := by
  have h := Nat.shiftRight_xor_distrib (a := a) (b := b) (i := 15)
  simpa [Nat.shiftRight_eq_div_pow] using h
theorem xor_bit {a b : Nat} (ha : a < 2) (hb : b < 2) : (a ^^^ b = 1) ↔ a ≠ b := by
  rcases (show a = 0 ∨ a = 1 by omega) with rfl | rfl <;> rcases (show b = 0 ∨ b = 1 by omega) with rfl | rfl <;> decide
/-- What of the byte is still to come. -/
def crR (x n : Nat) : Nat := x % 2 ^ (8 - n) * 2 ^ (8 + n)
theorem crR_step (x : Nat) (hx : x < 256) (n : Nat) (hn : n < 8) : crR x n / 32768 = x / 2 ^ (7 - n) % 2 ∧ crR x n * 2 % 65536 = crR x (n + 1) ∧ crR x n < 65536 := by
  unfold crR
  rcases (show n = 0 ∨ n = 1 ∨ n = 2 ∨ n = 3 ∨ n = 4 ∨ n = 5 ∨ n = 6 ∨ n = 7 by omega) with rfl | rfl | rfl | rfl | rfl | rfl | rfl | rfl <;> simp <;> omega
theorem cr_step (x : Nat) (hx : x < 256) (s : Nat) (hs : s < 65536) : ∀ n, n ≤ 8 → crT n (s ^^^ (x * 256)) = rfT x n s ^^^ crR x n
  | 0, _ => by
    show s ^^^ (x * 256) = s ^^^ crR x 0
    rw [show crR x 0 = x * 256 from by unfold crR; simp; omega]
  | n + 1, h => by
    obtain ⟨e1, e2, e3⟩ := crR_step x hx n (by omega)
    have hr := rfT_lt (x := x) hs n
    show crS (crT n (s ^^^ (x * 256))) = rfS (rfT x n s) (x / 2 ^ (7 - n) % 2) ^^^ crR x (n + 1)
    rw [cr_step x hx s hs n (by omega), ← e1, ← e2]
    generalize rfT x n s = r at *
    generalize crR x n = c at *
    unfold crS rfS
    rw [xor_div, xor_dbl]
    have hb := xor_bit (a := r / 32768) (b := c / 32768) (by omega) (by omega)
    by_cases he : r / 32768 = c / 32768
    · rw [if_pos he, if_neg (by rw [hb]; exact fun h => h he)]
    · rw [if_neg he, if_pos (hb.2 he)]
      rw [Nat.xor_assoc, Nat.xor_assoc, Nat.xor_comm (c * 2 % 65536)]
theorem crB_rf {x s : Nat} (hx : x < 256) (hs : s < 65536) : crB s x = rfT x 8 s := by
  unfold crB
  rw [cr_step x hx s hs 8 (by omega)]
  have : crR x 8 = 0 := by unfold crR; simp; omega
  rw [this, Nat.xor_zero]
/-- A step can be turned back. -/
theorem crS_inj {a b : Nat} (ha : a < 65536) (hb : b < 65536) (h : crS a = crS b) : a = b := by
  have par : ∀ s : Nat, crS s % 2 = if s / 32768 = 1 then 1 else 0 := by
    intro s
    unfold crS
    split
    · have := Nat.xor_mod_two_pow (n := 1) (a := s * 2 % 65536) (b := 4129)
      rw [Nat.pow_one] at this
      rw [this, show s * 2 % 65536 % 2 = 0 by omega]
      rfl
    · omega
  have pa := par a
  have pb := par b
  rw [h] at pa
  have hx : ∀ {u v : Nat}, u ^^^ 4129 = v ^^^ 4129 → u = v := by
    intro u v e
    have := congrArg (· ^^^ 4129) e
    simpa [Nat.xor_assoc] using this
  unfold crS at h
  by_cases ea : a / 32768 = 1
  · by_cases eb : b / 32768 = 1
    · rw [if_pos ea, if_pos eb] at h
      have := hx h
      omega
    · rw [if_pos ea] at pa; rw [if_neg eb] at pb; omega
  · by_cases eb : b / 32768 = 1
    · rw [if_neg ea] at pa; rw [if_pos eb] at pb; omega
    · rw [if_neg ea, if_neg eb] at h
      omega
theorem crT_inj {a b : Nat} (ha : a < 65536) (hb : b < 65536) : ∀ n, crT n a = crT n b → a = b
  | 0, h => h
  | n + 1, h => crT_inj ha hb n (crS_inj (crT_lt ha n) (crT_lt hb n) h)
theorem crX_lt {s x : Nat} (hs : s < 65536) (hx : x < 256) : s ^^^ (x * 256) < 65536 := Nat.xor_lt_two_pow (n := 16) (by omega) (by omega)
theorem crB_lt (s x : Nat) : crB s x < 65536 := crS_lt _
theorem crB_inj {s t x : Nat} (hs : s < 65536) (ht : t < 65536) (hx : x < 256) (h : crB s x = crB t x) : s = t := by
  have := crT_inj (crX_lt hs hx) (crX_lt ht hx) 8 h
  have := congrArg (· ^^^ (x * 256)) this
  simpa [Nat.xor_assoc] using this
theorem crB_inj2 {s x y : Nat} (hs : s < 65536) (hx : x < 256) (hy : y < 256) (h : crB s x = crB s y) : x = y := by
  have e := crT_inj (crX_lt hs hx) (crX_lt hs hy) 8 h
  have e2 : s ^^^ (s ^^^ (x * 256)) = s ^^^ (s ^^^ (y * 256)) := by rw [e]
  rw [← Nat.xor_assoc, ← Nat.xor_assoc, Nat.xor_self, Nat.zero_xor, Nat.zero_xor] at e2
  omega
/-- The sum of a row of bytes. -/
def crF (l : List Int) (s : Nat) : Nat := l.foldl (fun n b => crB n b.toNat) s
def crI (l : List Int) : Nat := crF l 65535
theorem crF_lt : ∀ (l : List Int) {s : Nat}, s < 65536 → crF l s < 65536
  | [], _, h => h
  | b :: r, s, h => crF_lt r (crB_lt s b.toNat)
theorem crI_lt (l : List Int) : crI l < 65536 := crF_lt l (by decide)
theorem crI_snoc (l : List Int) (b : Int) : crI (l ++ [b]) = crB (crI l) b.toNat := by simp [crI, crF]
theorem crI_take {l : List Int} {k : Nat} (h : k < l.length) : crI (l.take (k + 1)) = crB (crI (l.take k)) (l.getD k 0).toNat := by rw [take_snoc h, crI_snoc]
theorem crF_inj : ∀ (l : List Int) {s t : Nat}, (∀ b ∈ l, 0 ≤ b ∧ b < 256) → s < 65536 → t < 65536 → crF l s = crF l t → s = t
  | [], _, _, _, _, _, h => h
  | b :: r, s, t, hb, hs, ht, h => by
    have hb0 := hb b (by simp)
    exact crB_inj hs ht (by omega) (crF_inj r (fun c hc => hb c (by simp [hc])) (crB_lt _ _) (crB_lt _ _) h)
/-- One byte that is another one: the sum is another one. -/
theorem crI_set {l : List Int} {k : Nat} {c : Int} (hk : k < l.length) (hl : ∀ b ∈ l, 0 ≤ b ∧ b < 256) (hc : 0 ≤ c ∧ c < 256) (hne : c ≠ l.getD k 0) : crI (l.set k c) ≠ crI l := by
  intro h
  have e1 : l = l.take k ++ l.getD k 0 :: l.drop (k + 1) := by
    simp [List.getD, hk]
  have e2 : l.set k c = l.take k ++ c :: l.drop (k + 1) := by rw [List.set_eq_take_append_cons_drop, if_pos hk]
  have hx := hl (l.getD k 0) (by simp [List.getD, hk])
  unfold crI at h
  rw [e2] at h
  conv at h => rhs; rw [e1]
  unfold crF at h
  rw [List.foldl_append, List.foldl_append] at h
  have := crF_inj (l.drop (k + 1)) (fun b hb => hl b (List.mem_of_mem_drop hb)) (crB_lt _ _) (crB_lt _ _) h
  have := crB_inj2 (crF_lt (l.take k) (by decide)) (by omega) (by omega) this
  omega
theorem u16_xor {a b : Nat} (ha : a < 65536) (hb : b < 65536) : bits .xor .u16 (a : Int) (b : Int) = ((a ^^^ b : Nat) : Int) := by
  have hx := Nat.xor_lt_two_pow (n := 16) ha hb
  show IntKind.u16.wrap ((BitVec.ofInt 16 (a : Int) ^^^ BitVec.ofInt 16 (b : Int)).toNat : Int) = _
  rw [BitVec.ofInt_natCast, BitVec.ofInt_natCast, BitVec.toNat_xor, BitVec.toNat_ofNat, BitVec.toNat_ofNat, Nat.mod_eq_of_lt ha, Nat.mod_eq_of_lt hb, IntKind.wrap_u16]
  omega
theorem i64_xor {a b : Nat} (ha : a < 65536) (hb : b < 65536) : bits .xor .i64 (a : Int) (b : Int) = ((a ^^^ b : Nat) : Int) := by
  have hx := Nat.xor_lt_two_pow (n := 16) ha hb
  show IntKind.i64.wrap ((BitVec.ofInt 64 (a : Int) ^^^ BitVec.ofInt 64 (b : Int)).toNat : Int) = _
  rw [BitVec.ofInt_natCast, BitVec.ofInt_natCast, BitVec.toNat_xor, BitVec.toNat_ofNat, BitVec.toNat_ofNat, Nat.mod_eq_of_lt (by omega), Nat.mod_eq_of_lt (by omega), IntKind.wrap_i64]
  omega
theorem and_top {a : Nat} (ha : a < 65536) : a &&& 32768 = a / 32768 * 32768 := by
  apply Nat.eq_of_testBit_eq
  intro i
  rw [Nat.testBit_and, show (32768 : Nat) = 2 ^ 15 from rfl, Nat.testBit_two_pow, Nat.testBit_mul_two_pow, Nat.testBit_div_two_pow]
  by_cases h : 15 = i
  · subst h; simp
  · rw [decide_eq_false h, Bool.and_false]
    by_cases g : 15 ≤ i
    · have hf : a.testBit i = false := Nat.testBit_lt_two_pow (Nat.lt_of_lt_of_le (show a < 2 ^ 16 from ha) (Nat.pow_le_pow_right (by decide) (by omega)))
      rw [show i - 15 + 15 = i by omega, hf]
      simp
    · simp [g]
theorem u16_top {a : Nat} (ha : a < 65536) : bits .and .u16 (a : Int) 32768 = ((a / 32768 * 32768 : Nat) : Int) := by
  have h : a &&& 32768 = a / 32768 * 32768 := and_top ha
  show IntKind.u16.wrap ((BitVec.ofInt 16 (a : Int) &&& BitVec.ofInt 16 32768).toNat : Int) = _
  rw [BitVec.ofInt_natCast, show BitVec.ofInt 16 32768 = BitVec.ofNat 16 32768 from rfl, BitVec.toNat_and, BitVec.toNat_ofNat, BitVec.toNat_ofNat, Nat.mod_eq_of_lt ha, Nat.mod_eq_of_lt (by decide), h, IntKind.wrap_u16]
  omega
end Go.Proofs.Ytpcbnoefgknihaa
