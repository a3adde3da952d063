/- The document's names and kinds; Find; the law UnitNames; walked. -/
import Derived.Test.YtfejdbmamaggpaaDoorUnit3
namespace Go.Proofs.YtfejdbmamaggpaaDoor
open Go.ChangeShapes Go.WideShapes Go.ChangeAt Go.RowKit
set_option linter.unusedVariables false
set_option linter.unusedSimpArgs false
def NmU (w : World) (g : Nat) : Prop := g < w.heap.size ∧ ∀ i, i < 15 → w.cell? ⟨g, i, none⟩ = some (.string (uN i))
theorem NmU.bel {w u : World} {g : Nat} (h : NmU w g) (k : Below w.heap.size w u) : NmU u g := ⟨Nat.lt_of_lt_of_le h.1 k.size, fun i hi => (bc k h.1).trans (h.2 i hi)⟩
theorem nm_new (w : World) : NmU (w.alloc (.cells #[.string ⟨#[99, 109]⟩, .string ⟨#[109]⟩, .string ⟨#[102, 116]⟩, .string ⟨#[102, 108]⟩, .string ⟨#[110, 109, 105]⟩, .string ⟨#[112, 97, 54, 52]⟩, .string ⟨#[112, 97]⟩, .string ⟨#[104, 112, 97]⟩, .string ⟨#[105, 110, 104, 103]⟩, .string ⟨#[99, 109, 115]⟩, .string ⟨#[107, 116]⟩, .string ⟨#[107, 109, 104]⟩, .string ⟨#[102, 112, 109]⟩, .string ⟨#[109, 107]⟩, .string ⟨#[107]⟩] 9)) w.heap.size := by
  refine ⟨by simp, fun i hi => ?_⟩
  have e : ∀ o (x : Value), (#[.string ⟨#[99, 109]⟩, .string ⟨#[109]⟩, .string ⟨#[102, 116]⟩, .string ⟨#[102, 108]⟩, .string ⟨#[110, 109, 105]⟩, .string ⟨#[112, 97, 54, 52]⟩, .string ⟨#[112, 97]⟩, .string ⟨#[104, 112, 97]⟩, .string ⟨#[105, 110, 104, 103]⟩, .string ⟨#[99, 109, 115]⟩, .string ⟨#[107, 116]⟩, .string ⟨#[107, 109, 104]⟩, .string ⟨#[102, 112, 109]⟩, .string ⟨#[109, 107]⟩, .string ⟨#[107]⟩] : Array Value)[o]? = some x → (w.alloc (.cells #[.string ⟨#[99, 109]⟩, .string ⟨#[109]⟩, .string ⟨#[102, 116]⟩, .string ⟨#[102, 108]⟩, .string ⟨#[110, 109, 105]⟩, .string ⟨#[112, 97, 54, 52]⟩, .string ⟨#[112, 97]⟩, .string ⟨#[104, 112, 97]⟩, .string ⟨#[105, 110, 104, 103]⟩, .string ⟨#[99, 109, 115]⟩, .string ⟨#[107, 116]⟩, .string ⟨#[107, 109, 104]⟩, .string ⟨#[102, 112, 109]⟩, .string ⟨#[109, 107]⟩, .string ⟨#[107]⟩] 9)).cell? ⟨w.heap.size, o, none⟩ = some x := fun o x h => by rw [cell_of_row _ w.heap.size _ _ _ _ (heap_alloc_new w _)]; exact h
  match i, hi with
  | 0, _ => exact e 0 _ rfl
  | 1, _ => exact e 1 _ rfl
  | 2, _ => exact e 2 _ rfl
  | 3, _ => exact e 3 _ rfl
  | 4, _ => exact e 4 _ rfl
  | 5, _ => exact e 5 _ rfl
  | 6, _ => exact e 6 _ rfl
  | 7, _ => exact e 7 _ rfl
  | 8, _ => exact e 8 _ rfl
  | 9, _ => exact e 9 _ rfl
  | 10, _ => exact e 10 _ rfl
  | 11, _ => exact e 11 _ rfl
  | 12, _ => exact e 12 _ rfl
  | 13, _ => exact e 13 _ rfl
  | 14, _ => exact e 14 _ rfl
  | i + 15, h => omega
set_option maxRecDepth 100000 in
set_option maxHeartbeats 8000000 in
theorem rnames (w : World) : Calls Tryd.prog 17 #[] w fun e w' => ∃ g, e = .returned (.slice (some ⟨g, 0, none⟩) 15 15) ∧ NmU w' g ∧ Below w.heap.size w w' := by
  have hT := Lib.hid (nm_new w)
  have hB := Lib.hid ((Below.refl w.heap.size w).alloc (Nat.le_refl _) (.cells #[.string ⟨#[99, 109]⟩, .string ⟨#[109]⟩, .string ⟨#[102, 116]⟩, .string ⟨#[102, 108]⟩, .string ⟨#[110, 109, 105]⟩, .string ⟨#[112, 97, 54, 52]⟩, .string ⟨#[112, 97]⟩, .string ⟨#[104, 112, 97]⟩, .string ⟨#[105, 110, 104, 103]⟩, .string ⟨#[99, 109, 115]⟩, .string ⟨#[107, 116]⟩, .string ⟨#[107, 109, 104]⟩, .string ⟨#[102, 112, 109]⟩, .string ⟨#[109, 107]⟩, .string ⟨#[107]⟩] 9))
  go_enter Tryd.func17, Tryd.ntmps17
  go_wp2
  go_ret
  exact ⟨_, rfl, hT.out, hB.out⟩
set_option maxRecDepth 100000 in
set_option maxHeartbeats 8000000 in
theorem rthere (u : Int) (w : World) : Calls Tryd.prog 19 #[.int .i64 u] w fun e w' => e = .returned (.bool (unB u)) ∧ w = w' := by
  have hu : unB u = (decide (0 ≤ u) && decide (u < 15)) := by unfold unB; simp
  rw [hu]
  by_cases z : 0 ≤ u
  · have y : decide (0 ≤ u) = true := decide_eq_true z
    go_enter Tryd.func19, Tryd.ntmps19
    go_wp2
    go_ret
    exact ⟨ret_bool (by simp [y]), rfl⟩
  · have y : decide (0 ≤ u) = false := decide_eq_false z
    go_enter Tryd.func19, Tryd.ntmps19
    go_wp2
    go_ret
    exact ⟨ret_bool (by simp [y]), rfl⟩
def rkV (u : Int) : Int := if u < 5 then 0 else if u < 9 then 1 else if u < 13 then 2 else 3
theorem rkV_is {k : Nat} (h : k < 15) : rkV (k : Int) = uK k := by
  have : ∀ k : Nat, k < 15 → rkV (k : Int) = uK k := by decide
  exact this k h
set_option maxRecDepth 100000 in
set_option maxHeartbeats 8000000 in
theorem rkind (u : Int) (w : World) : Calls Tryd.prog 21 #[.int .i64 u] w fun e w' => e = .returned (.int .i64 (rkV u)) ∧ w = w' := by
  go_enter Tryd.func21, Tryd.ntmps21
  go_wp2
  all_goals
    go_ret
    exact ⟨ret_int (by unfold rkV; omega), rfl⟩
theorem uN_inj {i j : Nat} (hi : i < 15) (hj : j < 15) (h : uN i = uN j) : i = j := by
  have : ∀ i, i < 15 → ∀ j, j < 15 → (uN i).data.toList = (uN j).data.toList → i = j := by decide +kernel
  exact this i hi j hj (by rw [h])
theorem uN_ne {i : Nat} (hi : i < 15) : uN i ≠ ⟨#[]⟩ := by
  have : ∀ i, i < 15 → (uN i).data.toList ≠ [] := by decide +kernel
  exact fun h => this i hi (by rw [h])
theorem bytes_inj {a b : ByteArray} (h : a.toList = b.toList) : a = b := by
  rw [Lib.toList_data, Lib.toList_data] at h
  rw [← Lib.mk_data a, ← Lib.mk_data b, h]
set_option maxRecDepth 100000 in
set_option maxHeartbeats 8000000 in
theorem ufind (s : ByteArray) (w : World) : Calls Tryd.prog 22 #[.string s] w fun e w' => (∃ k : Nat, ((k < 15 ∧ uN k = s ∧ e = .returned (.tuple #[.int .i64 (k : Int), .bool true])) ∨ ((∀ j, j < 15 → uN j ≠ s) ∧ e = .returned (.tuple #[.int .i64 0, .bool false])))) ∧ Below w.heap.size w w' := by
  have UT := Lib.hid (utable w)
  go_enter Tryd.func22, Tryd.ntmps22
  go_wp2_with fail
  refine UT.out.mono ?_
  rintro e u1 ⟨g, rfl, hT, hb⟩
  have h1 := Lib.hid hb
  have HT := Lib.hid (fun u (k : Below u1.heap.size u1 u) => hT.bel k)
  clear hb hT UT
  go_wp2_with fail
  go_loopw [8] (fun i v => ∃ k : Nat, k ≤ 15 ∧ i = .int .i64 (k : Int) ∧ Hid (Below u1.heap.size u1 v) ∧ Hid (∀ j, j < k → uN j ≠ s)) (fun i _ => 15 - (intOf i).toNat)
  case atStart => exact ⟨0, by omega, rfl, Lib.hid (Below.refl _ _), Lib.hid (fun j hj => by omega)⟩
  case round =>
    obtain ⟨k, hk, rfl, hb, hN⟩ := hrel
    generalize wr = v at *
    by_cases hlt : k < 15
    · have hT := HT.out v hb.out
      obtain ⟨x0, x1, x2, x3⟩ := hT.2 k hlt
      have hg := hT.1
      have j1 : (k : Int) < 15 := by omega
      have j2 : IntKind.i64.wrap ((k : Int) + 1) = (k : Int) + 1 := by rw [IntKind.wrap_i64]; omega
      have j3 : 0 ≤ (k : Int) := by omega
      clear hT
      obtain ⟨n0, e0⟩ : ∃ n0, uN k = n0 := ⟨_, rfl⟩
      have E0 := Lib.hid e0
      rw [e0] at x0
      clear e0
      generalize uK k = n1 at *
      generalize uA k = n2 at *
      generalize uB k = n3 at *
      have hbA := Lib.hid (show Below u1.heap.size u1 _ from hb.out.alloc hb.out.size (.cells #[.string n0, .int .i64 n1, .int .i64 n2, .int .i64 n3] 103))
      by_cases z : n0 = s
      · subst z
        have hbF := Lib.hid (show Below w.heap.size w _ from h1.out.trans (hbA.out.mono h1.out.size))
        go_wp2
        go_ret2
        exact ⟨⟨k, .inl ⟨hlt, E0.out, rfl⟩⟩, hbF.out⟩
      · have z1 : (n0.toList == s.toList) = false := beq_eq_false_iff_ne.2 (fun h => z (bytes_inj h))
        have z2 : decide (n0 = s) = false := decide_eq_false z
        have hN2 := Lib.hid (show ∀ j, j < k + 1 → uN j ≠ s from fun j hj => by
          by_cases q : j = k
          · subst q; rw [E0.out]; exact z
          · exact hN.out j (by omega))
        go_wp2
        go_roundw
        case rel => exact ⟨k + 1, by omega, by first | rfl | go_num, hbA, hN2⟩
        case measure => simp [intOf]; omega
    · obtain rfl : k = 15 := by omega
      have hbF := Lib.hid (show Below w.heap.size w v from h1.out.trans (hb.out.mono h1.out.size))
      go_wp2
      go_ret2
      exact ⟨⟨0, .inr ⟨hN.out, rfl⟩⟩, hbF.out⟩
end Go.Proofs.YtfejdbmamaggpaaDoor
