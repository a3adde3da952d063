/- Proved: the law DiscCalls of package aneroidlaw29 returns true for every input, and every argument reads behind the call as it did before. Conditions: none beyond the row's own. -/
import Derived.Test.YtaijkngdelolgaaDisc9
namespace Go.Proofs.Ytaijkngdelolgaa.discCalls
open Go.ChangeShapes Go.WideShapes Go.ChangeAt Go.RowKit
open Go.ChangeMaps (open_string shut_string)
open Go.Joins
set_option linter.unusedVariables false

set_option maxRecDepth 100000 in
theorem lifted (os : Os) (started : os.Started) (H : Type) (enc : TypeId × Value → H) :
    ReturnsInHanded {} Try.checked os 5 .any (Rows.discCallsSpec.pre6 enc Try.prog Try.f5 Rows.discCallsRow.domain false) (Rows.discCallsSpec.post enc Try.prog Try.f5 false true false false) := by
  refine returnsInHanded_of_change (C := Try.checked) own started (by kernel_rfl) Try.func5
    (ChangeSpec.witness6 (enc := enc) (C := Try.checked) false ⟨#[], #[.agg #[.bool false, .bool false, .bool false, .bool false, .bool false, .bool false, .bool false, .bool false, .bool false, .bool false, .bool false, .bool false, .bool false, .bool false, .bool false, .bool false, .bool false, .bool false, .bool false], .string ByteArray.empty, .agg #[.int .i64 0, .int .i64 0, .int .i64 0]], []⟩ 8 (by kernel_rfl) (by kernel_rfl) (by kernel_rfl) (by kernel_rfl)) ?_
  intro W base args ds gs before hval0 hW hcnd _
  have hval : ∀ (j : Nat) t v, Try.f5.params[j]? = some t → args[j]? = some v → Value.okWide Try.prog W .any base t v := hval0
  have hW' := hW
  obtain ⟨p, q, hA0, hV, rfl, hfz, hnd⟩ := hW
  have hA : DataW.TrodAll enc Try.prog W 0 (fun _ => true) true Try.f5.params.toList args.toList ds p := hA0
  rw [Try.params5] at hA hval
  obtain ⟨v0, vs0, d0, ds0, p0, q0, hargs, rfl, rfl, h0, r0_⟩ := trodAll_cons hA
  obtain ⟨v1, vs1, d1, ds1, p1, q1, rfl, rfl, rfl, h1, r1_⟩ := trodAll_cons r0_
  obtain ⟨v2, vs2, d2, ds2, p2, q2, rfl, rfl, rfl, h2, r2_⟩ := trodAll_cons r1_
  obtain ⟨rfl, rfl, rfl⟩ := trodAll_nil r2_
  obtain rfl : args = #[v0, v1, v2] := by cases args; simp_all
  obtain ⟨rfl, rfl⟩ := trodVars_none hV
  have k0 := h0
  have lt0 : ∀ x ∈ p0, x.block < W.heap.size := by obtain ⟨m, hm⟩ := k0; exact DataW.trod_lt m _ _ _ hm
  obtain ⟨cs0, rfl, f0⟩ := open_flat [Option.none, Option.none, Option.none, Option.none, Option.none, Option.none, Option.none, Option.none, Option.none, Option.none, Option.none, Option.none, Option.none, Option.none, Option.none, Option.none, Option.none, Option.none, Option.none] (by kernel_rfl) (by kernel_rfl) (hval 0 23 v0 rfl rfl) h0
  obtain ⟨c0_0, _, rfl, f0⟩ := f0
  obtain ⟨c0_1, _, rfl, f0⟩ := f0
  obtain ⟨c0_2, _, rfl, f0⟩ := f0
  obtain ⟨c0_3, _, rfl, f0⟩ := f0
  obtain ⟨c0_4, _, rfl, f0⟩ := f0
  obtain ⟨c0_5, _, rfl, f0⟩ := f0
  obtain ⟨c0_6, _, rfl, f0⟩ := f0
  obtain ⟨c0_7, _, rfl, f0⟩ := f0
  obtain ⟨c0_8, _, rfl, f0⟩ := f0
  obtain ⟨c0_9, _, rfl, f0⟩ := f0
  obtain ⟨c0_10, _, rfl, f0⟩ := f0
  obtain ⟨c0_11, _, rfl, f0⟩ := f0
  obtain ⟨c0_12, _, rfl, f0⟩ := f0
  obtain ⟨c0_13, _, rfl, f0⟩ := f0
  obtain ⟨c0_14, _, rfl, f0⟩ := f0
  obtain ⟨c0_15, _, rfl, f0⟩ := f0
  obtain ⟨c0_16, _, rfl, f0⟩ := f0
  obtain ⟨c0_17, _, rfl, f0⟩ := f0
  obtain ⟨c0_18, _, rfl, f0⟩ := f0
  have f0 : _ = _ := f0
  subst f0
  have k1 := h1
  have lt1 : ∀ x ∈ p1, x.block < W.heap.size := by obtain ⟨m, hm⟩ := k1; exact DataW.trod_lt m _ _ _ hm
  obtain ⟨s1, rfl, rfl, rfl, w1⟩ := open_string Try.underlying9 (hval 1 9 v1 rfl rfl) h1
  have k2 := h2
  have lt2 : ∀ x ∈ p2, x.block < W.heap.size := by obtain ⟨m, hm⟩ := k2; exact DataW.trod_lt m _ _ _ hm
  obtain ⟨cs2, rfl, f2⟩ := open_flat [some .i64, some .i64, some .i64] (by kernel_rfl) (by kernel_rfl) (hval 2 34 v2 rfl rfl) h2
  obtain ⟨c2_0, _, rfl, w2_0, f2⟩ := f2
  obtain ⟨c2_1, _, rfl, w2_1, f2⟩ := f2
  obtain ⟨c2_2, _, rfl, w2_2, f2⟩ := f2
  have f2 : _ = _ := f2
  subst f2
  clear hA0 hval0
  refine (law_DiscCalls (fun i => match i with | 0 => c0_0 | 1 => c0_1 | 2 => c0_2 | 3 => c0_3 | 4 => c0_4 | 5 => c0_5 | 6 => c0_6 | 7 => c0_7 | 8 => c0_8 | 9 => c0_9 | 10 => c0_10 | 11 => c0_11 | 12 => c0_12 | 13 => c0_13 | 14 => c0_14 | 15 => c0_15 | 16 => c0_16 | 17 => c0_17 | _ => c0_18) s1 c2_0 c2_1 c2_2 W).mono fun e W' ⟨he, bel⟩ => ?_
  subst he
  exact ⟨_, rfl, _, _, _, [], _, [], hW', trodAll_mk1 (shut_bool Try.underlying4 _), (trodAll_cons_mk (Below.trod laidOut (by kernel_rfl) (of_decide_eq_true (by kernel_rfl)) k0 bel lt0) (trodAll_cons_mk (Below.trod laidOut (by kernel_rfl) (of_decide_eq_true (by kernel_rfl)) k1 bel lt1) (trodAll_cons_mk (Below.trod laidOut (by kernel_rfl) (of_decide_eq_true (by kernel_rfl)) k2 bel lt2) trodAll_mk0))), rfl, bel.frame _, fun h => by cases h⟩

theorem over : Rows.discCallsRow.holds Try.pinned (OpenSpec.ofChange Rows.discCallsSpec) :=
  OpenClaim.holds_of_wide 5 Try.f5 rfl rfl rfl rfl rfl rfl rfl ⟨rfl, rfl, rfl, rfl, rfl⟩ rfl rfl rfl rfl rfl (by kernel_rfl) Try.func5 (by kernel_rfl)
    (of_decide_eq_true (by kernel_rfl)) (by unfold Func.isWrapper; first | (rw [if_pos (by decide +kernel)]; kernel_rfl) | (rw [if_neg (by decide +kernel)]; exact ⟨rfl, rfl⟩))
    (fun os started H enc _ => lifted os started H enc)

/-- THE STATEMENT. -/
theorem proved : Rows.DiscCallsSaid :=
  over
#print axioms proved
end Go.Proofs.Ytaijkngdelolgaa.discCalls
