/- Package maint: where a name stands among the codes, a mode among the modes; walked. -/
import Derived.Test.YtfejdbmamaggpaaDoorMaint11
namespace Go.Proofs.YtfejdbmamaggpaaDoor
open Go.ChangeShapes Go.WideShapes Go.ChangeAt Go.RowKit
set_option linter.unusedVariables false
set_option linter.unusedSimpArgs false
theorem en_box (w : World) (c : Int) (s : ByteArray) : ∃ V, V = w.alloc (.cells #[.int .i64 c, .string s] 126) ∧ Below w.heap.size w V ∧ V.cell? ⟨w.heap.size, 1, none⟩ = some (.string s) :=
  ⟨_, rfl, (Below.refl _ _).alloc (Nat.le_refl _) _, by rw [cell_of_row _ w.heap.size _ _ _ _ (heap_alloc_new w _)]; rfl⟩
def sqB (s x : ByteArray) : Bool := s.toList == x.toList
theorem sqB_iff (s x : ByteArray) : sqB s x = true ↔ s = x := by
  unfold sqB
  rw [beq_iff_eq]
  constructor
  · intro h
    rw [Lib.toList_data, Lib.toList_data] at h
    cases s with
    | mk a => cases x with
      | mk b => exact congrArg ByteArray.mk (Array.toList_inj.1 h)
  · intro h; rw [h]
set_option maxRecDepth 100000 in
set_option maxHeartbeats 8000000 in
theorem mpc (q : Nat) (x : ByteArray) (c : Int) (s : ByteArray) (w : World) (hq : w.cell? ⟨q, 0, none⟩ = some (.string x)) (hlt : q < w.heap.size) : Calls Tryd.prog 91 #[.agg #[.int .i64 c, .string s], .pointer (some ⟨q, 0, none⟩)] w fun e w' => e = .returned (.bool (sqB s x)) ∧ Below w.heap.size w w' := by
  obtain ⟨V, eV, hb, c1⟩ := en_box w c s
  replace eV := Lib.hid eV
  have k0 := (bc hb hlt).trans hq
  clear hq
  go_enter Tryd.func91, Tryd.ntmps91
  go_upto_region 1 with (fail)
  rw [← eV.out]
  go_wp2
  go_ret
  exact ⟨rfl, hb⟩
/-- Where x stands first; -1: nowhere. -/
def FiS (N : Nat → ByteArray) (n : Nat) (x : ByteArray) (r : Int) : Prop := (∃ j : Nat, j < n ∧ r = (j : Int) ∧ N j = x ∧ ∀ i, i < j → N i ≠ x) ∨ (r = -1 ∧ ∀ j, j < n → N j ≠ x)
set_option maxRecDepth 100000 in
set_option maxHeartbeats 8000000 in
theorem mindexf (g q : Nat) (x : ByteArray) (w : World) (hT : TbM w g) (hq : w.cell? ⟨q, 0, none⟩ = some (.string x)) (hlt : q < w.heap.size) : Calls Tryd.prog 90 #[.slice (some ⟨g, 0, none⟩) 7 7, .func (.func 91) #[] #[.pointer (some ⟨q, 0, none⟩)]] w fun e w' => ∃ r : Int, e = .returned (.int .i64 r) ∧ FiS mN 7 x r ∧ Below w.heap.size w w' := by
  have HT := Lib.hid (fun u (k : Below w.heap.size w u) => hT.bel k)
  have CL := Lib.hid (fun c s u (k : Below w.heap.size w u) => mpc q x c s u ((bc k hlt).trans hq) (Nat.lt_of_lt_of_le hlt k.size))
  clear hT hq hlt
  go_enter Tryd.func90, Tryd.ntmps90
  go_wp2
  go_loopw [8] (fun i v => ∃ k : Nat, k ≤ 7 ∧ i = .int .i64 (k : Int) ∧ Hid (Below w.heap.size w v) ∧ Hid (∀ j, j < k → mN j ≠ x)) (fun i _ => 7 - (intOf i).toNat)
  case atStart => exact ⟨0, by omega, rfl, Lib.hid (Below.refl _ _), Lib.hid (fun j hj => by omega)⟩
  case round =>
    obtain ⟨k, hk, rfl, hb, hN⟩ := hrel
    by_cases hltk : k < 7
    · have hT := HT.out _ hb.out
      obtain ⟨x0, x1⟩ := hT.2 k hltk
      have hg := hT.1
      clear hT
      have j1 : (k : Int) < 7 := by omega
      have j2 : IntKind.i64.wrap ((k : Int) + 1) = (k : Int) + 1 := by rw [IntKind.wrap_i64]; omega
      have j3 : 0 ≤ (k : Int) := by omega
      have CK := CL.out (mC k) (mN k) wr hb.out
      obtain ⟨p, ep⟩ : ∃ p, sqB (mN k) x = p := ⟨_, rfl⟩
      rw [ep] at CK
      replace CK := Lib.hid CK
      replace ep := Lib.hid ep
      cases p
      · have hN2 := Lib.hid (show ∀ j, j < k + 1 → mN j ≠ x from fun j hj => by
          by_cases q : j = k
          · subst q; intro h; have := (sqB_iff _ _).2 h; rw [ep.out] at this; cases this
          · exact hN.out j (by omega))
        clear ep
        generalize mN k = s at *
        generalize mC k = c at *
        go_wp2_with fail
        refine CK.out.mono ?_
        rintro e w1 ⟨rfl, hb1⟩
        have hb2 := Lib.hid (hb.out.trans (hb1.mono hb.out.size))
        clear hb1 hb
        go_wp2
        go_roundw
        case rel => exact ⟨k + 1, by omega, by first | rfl | go_num, hb2, hN2⟩
        case measure => simp [intOf] <;> omega
      · have hF := Lib.hid (show FiS mN 7 x (k : Int) from .inl ⟨k, hltk, rfl, (sqB_iff _ _).1 ep.out, hN.out⟩)
        clear ep
        generalize mN k = s at *
        generalize mC k = c at *
        go_wp2_with fail
        refine CK.out.mono ?_
        rintro e w1 ⟨rfl, hb1⟩
        have hb2 := Lib.hid (hb.out.trans (hb1.mono hb.out.size))
        clear hb1 hb
        go_wp2
        go_ret
        exact ⟨(k : Int), rfl, hF.out, hb2.out⟩
    · obtain rfl : k = 7 := by omega
      go_wp2
      go_ret
      exact ⟨-1, rfl, .inr ⟨rfl, hN.out⟩, hb.out⟩
def MdM (w : World) (g : Nat) : Prop := g < w.heap.size ∧ ∀ i, i < 6 → w.cell? ⟨g, i, none⟩ = some (.string (mdN i))
theorem MdM.bel {w u : World} {g : Nat} (h : MdM w g) (k : Below w.heap.size w u) : MdM u g := ⟨Nat.lt_of_lt_of_le h.1 k.size, fun i hi => (bc k h.1).trans (h.2 i hi)⟩
set_option maxRecDepth 100000 in
set_option maxHeartbeats 8000000 in
theorem mindex (g : Nat) (x : ByteArray) (w : World) (hT : MdM w g) : Calls Tryd.prog 92 #[.slice (some ⟨g, 0, none⟩) 6 6, .string x] w fun e w' => ∃ r : Int, e = .returned (.int .i64 r) ∧ FiS mdN 6 x r ∧ Below w.heap.size w w' := by
  have HT := Lib.hid (fun u (k : Below w.heap.size w u) => hT.bel k)
  clear hT
  go_enter Tryd.func92, Tryd.ntmps92
  go_wp2
  go_loopw [8] (fun i v => ∃ k : Nat, k ≤ 6 ∧ i = .int .i64 (k : Int) ∧ Hid (Below w.heap.size w v) ∧ Hid (∀ j, j < k → mdN j ≠ x)) (fun i _ => 6 - (intOf i).toNat)
  case atStart => exact ⟨0, by omega, rfl, Lib.hid (Below.refl _ _), Lib.hid (fun j hj => by omega)⟩
  case round =>
    obtain ⟨k, hk, rfl, hb, hN⟩ := hrel
    by_cases hltk : k < 6
    · have hT := HT.out _ hb.out
      have x0 := hT.2 k hltk
      have hg := hT.1
      clear hT
      have j1 : (k : Int) < 6 := by omega
      have j2 : IntKind.i64.wrap ((k : Int) + 1) = (k : Int) + 1 := by rw [IntKind.wrap_i64]; omega
      have j3 : 0 ≤ (k : Int) := by omega
      by_cases z : mdN k = x
      · have hF := Lib.hid (show FiS mdN 6 x (k : Int) from .inl ⟨k, hltk, rfl, z, hN.out⟩)
        rw [z] at x0
        clear z
        go_wp2
        go_ret
        exact ⟨(k : Int), rfl, hF.out, hb.out⟩
      · have hN2 := Lib.hid (show ∀ j, j < k + 1 → mdN j ≠ x from fun j hj => by
          by_cases q : j = k
          · subst q; exact z
          · exact hN.out j (by omega))
        have z1 : (x.toList == (mdN k).toList) = false := by
          cases h : (x.toList == (mdN k).toList) with
          | false => rfl
          | true => exact absurd ((sqB_iff _ _).1 h).symm z
        have z2 : ¬ x.toList = (mdN k).toList := beq_eq_false_iff_ne.1 z1
        clear z
        generalize mdN k = s at *
        go_wp2
        go_roundw
        case rel => exact ⟨k + 1, by omega, by first | rfl | go_num, hb, hN2⟩
        case measure => simp [intOf] <;> omega
    · obtain rfl : k = 6 := by omega
      go_wp2
      go_ret
      exact ⟨-1, rfl, .inr ⟨rfl, hN.out⟩, hb.out⟩
end Go.Proofs.YtfejdbmamaggpaaDoor
