/- The document's Parse of a message: the number; plain. -/
import Derived.Test.YtfejdbmamaggpaaDoorMaint17
import Derived.Test.YtfejdbmamaggpaaDoorMaint13
import Derived.Lib.IndexBytes
namespace Go.Proofs.YtfejdbmamaggpaaDoor
open Go.ChangeShapes Go.WideShapes Go.ChangeAt Go.RowKit
set_option linter.unusedVariables false
set_option linter.unusedSimpArgs false
def isD (b : UInt8) : Bool := decide (48 ≤ b.toNat) && decide (b.toNat ≤ 57)
/-- The number of the digits ahead, at most so many. -/
def rdD : Nat → Nat → List UInt8 → Nat
  | 0, acc, _ => acc
  | _ + 1, acc, [] => acc
  | k + 1, acc, b :: r => if isD b = true then rdD k (10 * acc + (b.toNat - 48)) r else acc
theorem rdD_num : ∀ (l : List UInt8) (k acc v : Nat) (r : List UInt8), l.length ≤ k → Lib.decFrom acc l = some v → rdD k acc (l ++ 32 :: r) = v
  | [], k, acc, v, r, _, h => by
    have e : acc = v := by simpa [Lib.decFrom] using h
    subst e
    cases k with
    | zero => rfl
    | succ k => rfl
  | b :: l, k, acc, v, r, hk, h => by
    cases k with
    | zero => exact absurd hk (by simp)
    | succ k =>
      simp only [Lib.decFrom] at h
      cases hd : Lib.digitVal b with
      | none => rw [hd] at h; cases h
      | some d =>
        rw [hd] at h
        unfold Lib.digitVal at hd
        by_cases hb : 48 ≤ b.toNat ∧ b.toNat ≤ 57
        · rw [if_pos hb] at hd
          have ed : b.toNat - 48 = d := Option.some.inj hd
          have hi : isD b = true := by unfold isD; rw [decide_eq_true hb.1, decide_eq_true hb.2]; rfl
          show (if isD b = true then rdD k (10 * acc + (b.toNat - 48)) (l ++ 32 :: r) else acc) = v
          rw [if_pos hi, ed]
          exact rdD_num l k _ v r (by simpa using hk) (by rw [Nat.mul_comm]; exact h)
        · rw [if_neg hb] at hd; cases hd
def nmR (s : ByteArray) : Nat := rdD 9 0 (s.data.toList.drop 1)
theorem nmR_of {t c a : Int} (h : rpB t c a = true) : ((nmR (lnS t c a) : Nat) : Int) = t := by
  obtain ⟨_, ⟨h0, h1⟩, _, _⟩ := (rpB_iff _ _ _).1 h
  have e : Lib.itoa t = Lib.decDigits t.toNat := by unfold Lib.itoa; rw [if_neg (by omega)]
  unfold nmR
  rw [lnS_list, e]
  show ((rdD 9 0 (Lib.decDigits t.toNat ++ 32 :: _) : Nat) : Int) = t
  have hl := dd_len 6 t.toNat (by have : (10 : Nat) ^ (6 + 1) = 10000000 := by decide
                                  omega)
  rw [rdD_num _ 9 0 t.toNat _ (by omega) (df_dec _)]
  omega
theorem rdD_nil (k acc : Nat) : rdD k acc [] = acc := by cases k <;> rfl
theorem rdD_stop (k acc : Nat) (b : UInt8) (r : List UInt8) (h : isD b = false) : rdD k acc (b :: r) = acc := by
  cases k with
  | zero => rfl
  | succ k =>
    show (if isD b = true then _ else acc) = acc
    rw [if_neg (by rw [h]; simp)]
theorem rdD_step (k acc : Nat) (b : UInt8) (r : List UInt8) (h : isD b = true) : rdD (k + 1) acc (b :: r) = rdD k (10 * acc + (b.toNat - 48)) r := by
  show (if isD b = true then _ else acc) = _
  rw [if_pos h]
theorem drop_at (s : ByteArray) (p : Nat) (h : p < s.size) : s.data.toList.drop p = s[p] :: s.data.toList.drop (p + 1) := by
  have h1 := Lib.data_getElem? s p h
  have hl : p < s.data.toList.length := by rw [of_len]; exact h
  rw [List.drop_eq_getElem_cons hl]
  congr 1
theorem drop_end (s : ByteArray) (p : Nat) (h : s.size ≤ p) : s.data.toList.drop p = [] := List.drop_eq_nil_of_le (by rw [of_len]; exact h)
theorem ix_at (s : ByteArray) (p : Nat) (h : p < s.size) (u : World) : (Instr.index 9 (.string s) (.int .i64 (p : Int))).run Tryd.prog u = .ok (.int .u8 ((s[p].toNat : Nat) : Int)) u := by
  rw [run_index_string u 9 s .i64 (p : Int) Tryd.underlying9, dif_pos ⟨by omega, by omega⟩]
  rfl
/-- When none of what was tried has this message, none has. -/
theorem ps_ref {s : ByteArray} (h : ∀ i, i < 7 → ∀ a : Nat, a < 6 → ¬ (rpB (nmR s : Nat) (mC i) a = true ∧ lnT (nmR s : Nat) (mC i) a = s)) : PsR s 0 0 0 false :=
  ⟨fun e => (by cases e), fun _ => ⟨⟨rfl, rfl, rfl⟩, fun t c a hr he => by
    have e1 := nmR_of hr
    rw [he] at e1
    obtain ⟨⟨i, hi, e2⟩, _, h2, h3⟩ := (rpB_iff _ _ _).1 hr
    have h5 : a ≤ 5 := by
      revert h3
      split
      · exact id
      · intro h; omega
    have e3 : ((a.toNat : Nat) : Int) = a := by omega
    refine h i hi a.toNat (by omega) ?_
    rw [e1, e2, e3]
    refine ⟨hr, ?_⟩
    unfold lnT
    rw [if_pos hr]
    exact he⟩⟩
theorem ps_hit {s : ByteArray} {t c a : Int} (h1 : rpB t c a = true) (h2 : lnT t c a = s) : PsR s t c a true :=
  ⟨fun _ => ⟨h1, by unfold lnT at h2; rw [if_pos h1] at h2; exact h2⟩, fun e => (by cases e)⟩
end Go.Proofs.YtfejdbmamaggpaaDoor
