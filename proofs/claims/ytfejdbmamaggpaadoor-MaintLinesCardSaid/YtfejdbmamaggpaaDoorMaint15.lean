/- The document's decimal number; walked. -/
import Derived.Test.YtfejdbmamaggpaaDoorMaint11
import Derived.Laws.IdiomStrings
import Derived.Deep.CutBlock
import Derived.Deep.CutRange
namespace Go.Proofs.YtfejdbmamaggpaaDoor
open Go.ChangeShapes Go.WideShapes Go.ChangeAt Go.RowKit
set_option linter.unusedVariables false
set_option linter.unusedSimpArgs false
theorem cv_run (m : Nat) (w : World) : (convert 148 9 (.slice (some ⟨w.heap.size, 0, none⟩) 1 1)).run Tryd.prog (w.alloc (.cells #[.int .u8 (48 + (m : Int) % 10)] 5)) = .ok (.string ⟨#[UInt8.ofNat (48 + m % 10)]⟩) (w.alloc (.cells #[.int .u8 (48 + (m : Int) % 10)] 5)) := by
  have e : (UInt8.ofNat (48 + m % 10)).toNat = 48 + m % 10 := by simp; omega
  exact run_convert_bytes_back (P := Tryd.prog) (w.alloc (.cells #[.int .u8 (48 + (m : Int) % 10)] 5)) 148 9 5 ⟨w.heap.size, 0, none⟩ 1 [UInt8.ofNat (48 + m % 10)] Tryd.underlying148 Tryd.underlying5 Tryd.underlying9 (fun j hj => by
    have : j = 0 := by simpa using hj
    subst this
    show World.cell? _ ⟨w.heap.size, 0, none⟩ = _
    rw [cell_of_row _ w.heap.size _ _ _ _ (heap_alloc_new w _)]
    show some (Value.int .u8 (48 + (m : Int) % 10)) = some (Value.int .u8 ((UInt8.ofNat (48 + m % 10)).toNat : Int))
    rw [e]
    congr 2)
/-- The digits ahead of the last one. -/
def ddH (m : Nat) : List UInt8 := if m < 10 then [] else Lib.decDigits (m / 10)
theorem dd_split (m : Nat) : Lib.decDigits m = ddH m ++ [UInt8.ofNat (48 + m % 10)] := by
  unfold ddH
  rw [Lib.decDigits]
  by_cases h : m < 10
  · rw [dif_pos h, if_pos h, Nat.mod_eq_of_lt h]; rfl
  · rw [dif_neg h, if_neg h]
set_option maxRecDepth 100000 in
set_option maxHeartbeats 16000000 in
theorem rnum (N : Nat) (hN : N ≤ 1000000) (w : World) : Calls Tryd.prog 72 #[.int .i64 (N : Int)] w fun e w' => e = .returned (.string ⟨(Lib.itoa (N : Int)).toArray⟩) ∧ Below w.heap.size w w' := by
  have hit : Lib.itoa (N : Int) = Lib.decDigits N := by unfold Lib.itoa; rw [if_neg (by omega)]; rfl
  rw [hit]
  have hl := dd_len 6 N (by have : (10 : Nat) ^ (6 + 1) = 10000000 := by decide
                            omega)
  have CV := cv_run N w
  have hb := Lib.hid ((Below.refl w.heap.size w).alloc (Nat.le_refl _) (.cells #[.int .u8 (48 + (N : Int) % 10)] 5))
  have CL := Lib.hid (fun m u => cv_run m u)
  obtain ⟨B, eB⟩ : ∃ B, w.heap.size = B := ⟨_, rfl⟩
  have DS := Lib.hid (dd_split N)
  obtain ⟨D, eD⟩ : ∃ D, Lib.decDigits N = D := ⟨_, rfl⟩
  rw [eD] at hl DS ⊢
  obtain ⟨b0, eb0⟩ : ∃ b, UInt8.ofNat (48 + N % 10) = b := ⟨_, rfl⟩
  rw [eb0] at CV DS
  obtain ⟨R, eR⟩ : ∃ R : ByteArray, (⟨D.toArray⟩ : ByteArray) = R := ⟨_, rfl⟩
  rw [eR]
  replace eR := Lib.hid eR
  clear eb0
  obtain ⟨V, eV⟩ : ∃ V, w.alloc (.cells #[.int .u8 (48 + (N : Int) % 10)] 5) = V := ⟨_, rfl⟩
  rw [eB] at CV
  have hb := Lib.hid (show Below w.heap.size w V by rw [← eV]; exact hb.out)
  replace eV := Lib.hid eV
  have z0 : ((N : Int) == -9223372036854775808) = false := by rw [beq_eq_false_iff_ne]; omega
  have z1 : decide ((N : Int) < 0) = false := decide_eq_false (by omega)
  clear hit eD
  go_enter Tryd.func72, Tryd.ntmps72
  go_upto_block 0 with (fail)
  rw [eV.out]
  go_wp2_with fail
  go_loopw [0, 3] (fun a b v => ∃ (m : Nat) (S : ByteArray), m ≤ 1000000 ∧ a = .int .i64 (m : Int) ∧ b = .string S ∧ Hid (D = ddH m ++ S.data.toList) ∧ Hid (Below w.heap.size w v)) (fun a _ _ => (intOf a).toNat)
  case atStart => exact ⟨N, _, hN, rfl, rfl, DS, hb⟩
  case round =>
    obtain ⟨m, S, hm, rfl, rfl, hD, hb⟩ := hrel
    have hS : S.size ≤ 7 := by
      have := congrArg List.length hD.out
      rw [List.length_append, of_len] at this
      omega
    by_cases hlt : 10 ≤ m
    · obtain ⟨p, ep⟩ : ∃ p, m / 10 = p := ⟨_, rfl⟩
      have i1 : (m : Int) / 10 = (p : Int) := by omega
      have i2 : Int.tdiv (m : Int) 10 = (p : Int) := by rw [Int.tdiv_eq_ediv_of_nonneg (by omega)]; omega
      have j1 : 10 ≤ (m : Int) := by omega
      have j2 : (p : Int) ≤ 1000000 := by omega
      have CP := CL.out p wr
      have hb2 := Lib.hid (show Below w.heap.size w (wr.alloc (.cells #[.int .u8 (48 + (p : Int) % 10)] 5)) from hb.out.alloc hb.out.size _)
      obtain ⟨bp, ebp⟩ : ∃ b, UInt8.ofNat (48 + p % 10) = b := ⟨_, rfl⟩
      rw [ebp] at CP
      have hD2 := Lib.hid (show D = ddH p ++ ((⟨#[bp]⟩ : ByteArray) ++ S).data.toList by
        have h1 : ddH m = Lib.decDigits p := by unfold ddH; rw [if_neg (by omega), ep]
        have h2 := dd_split p
        rw [hD.out, h1, h2, ebp]
        simp)
      replace ebp := Lib.hid ebp
      obtain ⟨Bm, eBm⟩ : ∃ B, wr.heap.size = B := ⟨_, rfl⟩
      rw [eBm] at CP
      replace ep := Lib.hid ep
      go_wp2
      go_roundw
      case rel => exact ⟨p, _, by omega, by first | rfl | go_num, rfl, hD2, hb2⟩
      case measure => simp [intOf] <;> omega
    · have j1 : ¬ 10 ≤ (m : Int) := by omega
      obtain rfl := (show R = S by
        rw [← eR.out, hD.out]
        unfold ddH
        rw [if_pos (by omega)]
        simp)
      go_wp2
      go_ret
      exact ⟨rfl, by first | exact hb.out | (rw [← eB]; exact hb.out)⟩
end Go.Proofs.YtfejdbmamaggpaaDoor
