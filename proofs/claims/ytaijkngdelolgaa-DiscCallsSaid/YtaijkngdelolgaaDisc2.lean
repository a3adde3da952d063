/- The names of marks: names, Find, Name; the example; walked. -/
import Derived.Test.YtaijkngdelolgaaDisc1
import Derived.Laws.Rows
import Derived.Deep.WholeRow
import Derived.Lib.Strings
import Derived.Deep.Cut
namespace Go.Proofs.Ytaijkngdelolgaa
open Go.ChangeShapes Go.WideShapes Go.ChangeAt Go.RowKit
set_option linter.unusedVariables false
set_option linter.unusedSimpArgs false
def nmB : Nat → ByteArray
  | 0 => ⟨#[112, 105, 116, 111, 116, 49]⟩
  | 1 => ⟨#[112, 105, 116, 111, 116, 50]⟩
  | 2 => ⟨#[115, 116, 97, 116, 105, 99, 49]⟩
  | 3 => ⟨#[115, 116, 97, 116, 105, 99, 50]⟩
  | 4 => ⟨#[109, 105, 115, 99, 111, 109, 112, 97, 114, 101, 45, 113]⟩
  | 5 => ⟨#[109, 105, 115, 99, 111, 109, 112, 97, 114, 101, 45, 112]⟩
  | 6 => ⟨#[115, 121, 110, 116, 104, 101, 116, 105, 99, 45, 113]⟩
  | 7 => ⟨#[115, 121, 110, 116, 104, 101, 116, 105, 99, 45, 112]⟩
  | 8 => ⟨#[108, 111, 115, 116, 45, 113]⟩
  | 9 => ⟨#[108, 111, 115, 116, 45, 112]⟩
  | 10 => ⟨#[102, 114, 111, 122, 101, 110, 49]⟩
  | 11 => ⟨#[102, 114, 111, 122, 101, 110, 50]⟩
  | 12 => ⟨#[100, 114, 97, 105, 110, 101, 100, 49]⟩
  | 13 => ⟨#[100, 114, 97, 105, 110, 101, 100, 50]⟩
  | 14 => ⟨#[111, 118, 101, 114, 102, 108, 111, 119]⟩
  | 15 => ⟨#[119, 97, 114, 109, 105, 110, 103]⟩
  | 16 => ⟨#[98, 97, 114, 111]⟩
  | 17 => ⟨#[115, 116, 97, 108, 101, 45, 97, 105, 100]⟩
  | 18 => ⟨#[114, 101, 115, 101, 116]⟩
  | _ => ⟨#[]⟩
def nmC : Array Value := #[.string (nmB 0), .string (nmB 1), .string (nmB 2), .string (nmB 3), .string (nmB 4), .string (nmB 5), .string (nmB 6), .string (nmB 7), .string (nmB 8), .string (nmB 9), .string (nmB 10), .string (nmB 11), .string (nmB 12), .string (nmB 13), .string (nmB 14), .string (nmB 15), .string (nmB 16), .string (nmB 17), .string (nmB 18)]
theorem nm_index (k : Nat) (hk : k < 19) (u : World) : (Instr.index 87 (.agg nmC) (.int .i64 (k : Int))).run Try.prog u = .ok (.string (nmB k)) u := by
  obtain rfl | rfl | rfl | rfl | rfl | rfl | rfl | rfl | rfl | rfl | rfl | rfl | rfl | rfl | rfl | rfl | rfl | rfl | rfl : k = 0 ∨ k = 1 ∨ k = 2 ∨ k = 3 ∨ k = 4 ∨ k = 5 ∨ k = 6 ∨ k = 7 ∨ k = 8 ∨ k = 9 ∨ k = 10 ∨ k = 11 ∨ k = 12 ∨ k = 13 ∨ k = 14 ∨ k = 15 ∨ k = 16 ∨ k = 17 ∨ k = 18 := by omega
  all_goals kernel_rfl
theorem bytes_inj {a b : ByteArray} (h : a.toList = b.toList) : a = b := by
  rw [Lib.toList_data, Lib.toList_data] at h
  rw [← Lib.mk_data a, ← Lib.mk_data b, h]
set_option maxRecDepth 100000 in
set_option maxHeartbeats 8000000 in
theorem dnames (w : World) : Calls Try.prog 44 #[] w fun e w' => e = .returned (.agg nmC) ∧ Below w.heap.size w w' := by
  obtain ⟨V, eV, hb0, hgV⟩ : ∃ V, V = w.alloc (.cells #[.string ⟨#[]⟩, .string ⟨#[]⟩, .string ⟨#[]⟩, .string ⟨#[]⟩, .string ⟨#[]⟩, .string ⟨#[]⟩, .string ⟨#[]⟩, .string ⟨#[]⟩, .string ⟨#[]⟩, .string ⟨#[]⟩, .string ⟨#[]⟩, .string ⟨#[]⟩, .string ⟨#[]⟩, .string ⟨#[]⟩, .string ⟨#[]⟩, .string ⟨#[]⟩, .string ⟨#[]⟩, .string ⟨#[]⟩, .string ⟨#[]⟩] 87) ∧ Below w.heap.size w V ∧ V.heap[w.heap.size]? = some (.cells #[.string ⟨#[]⟩, .string ⟨#[]⟩, .string ⟨#[]⟩, .string ⟨#[]⟩, .string ⟨#[]⟩, .string ⟨#[]⟩, .string ⟨#[]⟩, .string ⟨#[]⟩, .string ⟨#[]⟩, .string ⟨#[]⟩, .string ⟨#[]⟩, .string ⟨#[]⟩, .string ⟨#[]⟩, .string ⟨#[]⟩, .string ⟨#[]⟩, .string ⟨#[]⟩, .string ⟨#[]⟩, .string ⟨#[]⟩, .string ⟨#[]⟩] 87 (0, 0)) := ⟨_, rfl, (by repeat (first | exact Below.refl _ _ | assumption | apply Below.drew | apply below_drewN | (refine Below.alloc ?_ (by first | exact Nat.le_refl _ | omega | (simp <;> omega)) _) | (refine Below.setCell ?_ (by first | exact Nat.le_refl _ | omega | (simp <;> omega)) _))), alloc_get _ _⟩
  have hgR : (V.setRow w.heap.size nmC).heap[w.heap.size]? = some (.cells nmC 87 (0, 0)) := by rw [eV, World.setRow_alloc_new]; exact alloc_get _ _
  have hbR : Below w.heap.size w (V.setRow w.heap.size nmC) := by rw [eV, World.setRow_alloc_new]; exact (by repeat (first | exact Below.refl _ _ | assumption | apply Below.drew | apply below_drewN | (refine Below.alloc ?_ (by first | exact Nat.le_refl _ | omega | (simp <;> omega)) _) | (refine Below.setCell ?_ (by first | exact Nat.le_refl _ | omega | (simp <;> omega)) _)))
  replace hbR := Lib.hid hbR
  replace hb0 := Lib.hid hb0
  replace hgR := Lib.hid hgR
  go_enter Try.func44, Try.ntmps44
  go_upto_region 1 with (fail)
  rw [← eV]
  clear eV
  go_wp2_with (refine wpList_store_row rfl 87 _ _ rfl w.heap.size nmC rfl rfl 87 _ hgV (by kernel_rfl) rfl (by kernel_rfl) ?_)
  refine bodyPost_ret (v := .agg nmC) (results_cell_row rfl _ _ w.heap.size 87 nmC (0, 0) _ rfl hgR.out Try.underlying87 rfl (by kernel_rfl)) rfl ⟨rfl, hbR.out⟩
set_option maxRecDepth 100000 in
set_option maxHeartbeats 8000000 in
theorem dfind_at (k : Nat) (s : ByteArray) (hk : k < 19) (hs : nmB k = s) (hn : ∀ j, j < k → nmB j ≠ s) (w : World) : Calls Try.prog 15 #[.string s] w fun e w' => e = .returned (.tuple #[.int .i64 (k : Int), .bool true]) ∧ Below w.heap.size w w' := by
  have NS := Lib.hid (fun u => dnames u)
  have IX := fun j hj u => nm_index j hj u
  generalize nmC = C at *
  go_enter Try.func15, Try.ntmps15
  go_wp2_with fail
  refine (NS.out _).mono ?_
  rintro e w1 ⟨rfl, hb1⟩
  replace hb1 := Lib.hid hb1
  go_wp2_with fail
  go_loopw [7] (fun i v => ∃ j : Nat, j ≤ k ∧ i = .int .i64 (j : Int) ∧ v = w1) (fun i _ => 19 - (intOf i).toNat)
  case atStart => exact ⟨0, by omega, rfl, rfl⟩
  case round =>
    obtain ⟨j, hj, rfl, rfl⟩ := hrel
    have i1 : (j : Int) < 19 := by omega
    have i2 : IntKind.i64.wrap ((j : Int) + 1) = (j : Int) + 1 := by rw [IntKind.wrap_i64]; omega
    have IXj := IX j (by omega)
    clear IX
    by_cases he : j = k
    · subst he
      rw [hs] at IXj
      clear hn
      go_wp2
      go_ret2
      exact ⟨rfl, hb1.out⟩
    · have hne := hn j (by omega)
      clear hn
      generalize nmB j = z at *
      have h2 : (z.toList == s.toList) = false := by
        rw [beq_eq_false_iff_ne]
        exact fun e => hne (bytes_inj e)
      go_wp2
      go_roundw
      case rel => exact ⟨j + 1, by omega, by first | rfl | go_num, by first | rfl | trivial⟩
      case measure => simp [intOf] <;> omega
set_option maxRecDepth 100000 in
set_option maxHeartbeats 8000000 in
theorem dname_at (k : Nat) (hk : k < 19) (w : World) : Calls Try.prog 17 #[.int .i64 (k : Int)] w fun e w' => e = .returned (.string (nmB k)) ∧ Below w.heap.size w w' := by
  have NS := Lib.hid (fun u => dnames u)
  have IX := fun u => nm_index k hk u
  generalize nmC = C at *
  have i1 : (k : Int) < 19 := by omega
  have i0 : ¬ (k : Int) < 0 := by omega
  have i3 : ¬ 19 ≤ (k : Int) := by omega
  go_enter Try.func17, Try.ntmps17
  go_wp2_with fail
  refine (NS.out _).mono ?_
  rintro e w1 ⟨rfl, hb1⟩
  go_wp2
  go_ret
  exact ⟨rfl, hb1⟩
set_option maxRecDepth 100000 in
set_option maxHeartbeats 8000000 in
theorem lives29 (w : World) : Calls Try.prog 11 #[] w fun e w' => e = .returned (.bool true) ∧ Below w.heap.size w w' := by
  have F1 := Lib.hid (fun u => show Calls Try.prog 15 #[.string ⟨#[114, 101, 115, 101, 116]⟩] u fun e w' => e = .returned (.tuple #[.int .i64 18, .bool true]) ∧ Below u.heap.size u w' from dfind_at 18 (nmB 18) (by omega) rfl (fun j hj => by
    obtain rfl | rfl | rfl | rfl | rfl | rfl | rfl | rfl | rfl | rfl | rfl | rfl | rfl | rfl | rfl | rfl | rfl | rfl : j = 0 ∨ j = 1 ∨ j = 2 ∨ j = 3 ∨ j = 4 ∨ j = 5 ∨ j = 6 ∨ j = 7 ∨ j = 8 ∨ j = 9 ∨ j = 10 ∨ j = 11 ∨ j = 12 ∨ j = 13 ∨ j = 14 ∨ j = 15 ∨ j = 16 ∨ j = 17 := by omega
    all_goals decide) u)
  have N0 := Lib.hid (fun u => show Calls Try.prog 17 #[.int .i64 0] u fun e w' => e = .returned (.string ⟨#[112, 105, 116, 111, 116, 49]⟩) ∧ Below u.heap.size u w' from dname_at 0 (by omega) u)
  go_enter Try.func11, Try.ntmps11
  go_wp2_with fail
  refine (F1.out _).mono ?_
  rintro e w1 ⟨rfl, hb1⟩
  go_wp2_with fail
  refine (N0.out _).mono ?_
  rintro e w2 ⟨rfl, hb2⟩
  go_wp2
  go_ret
  exact ⟨rfl, hb1.trans (hb2.mono hb1.size)⟩
end Go.Proofs.Ytaijkngdelolgaa
