/- Proved: the law DiscBack of package aneroidlaw29 returns true for every input, and every argument reads behind the call as it did before. Conditions: none beyond the row's own. -/
import Derived.Test.YtaijkngdelolgaaDisc6
namespace Go.Proofs.Ytaijkngdelolgaa.discBack
open Go.ChangeShapes Go.WideShapes Go.ChangeAt Go.RowKit
open Go.ChangeMaps (open_string shut_string)
open Go.Joins
set_option linter.unusedVariables false

set_option maxRecDepth 100000 in
theorem lifted (os : Os) (started : os.Started) (H : Type) (enc : TypeId × Value → H) :
    ReturnsInHanded {} Try.checked os 6 .any (Rows.discBackSpec.pre6 enc Try.prog Try.f6 Rows.discBackRow.domain false) (Rows.discBackSpec.post enc Try.prog Try.f6 false true false false) := by
  refine returnsInHanded_of_change (C := Try.checked) own started (by kernel_rfl) Try.func6
    (ChangeSpec.witness6 (enc := enc) (C := Try.checked) false ⟨#[], #[.int .i64 0, .agg #[.bool false, .bool false, .bool false, .bool false, .bool false, .bool false, .bool false, .bool false, .bool false, .bool false, .bool false, .bool false, .bool false, .bool false, .bool false, .bool false, .bool false, .bool false, .bool false, .bool false, .bool false, .bool false, .bool false, .bool false, .bool false, .bool false, .bool false, .bool false, .bool false, .bool false, .bool false, .bool false, .bool false, .bool false, .bool false, .bool false, .bool false, .bool false], .agg #[.int .i64 0, .int .i64 0]], []⟩ 8 (by kernel_rfl) (by kernel_rfl) (by kernel_rfl) (by kernel_rfl)) ?_
  intro W base args ds gs before hval0 hW hcnd _
  have hval : ∀ (j : Nat) t v, Try.f6.params[j]? = some t → args[j]? = some v → Value.okWide Try.prog W .any base t v := hval0
  have hW' := hW
  obtain ⟨p, q, hA0, hV, rfl, hfz, hnd⟩ := hW
  have hA : DataW.TrodAll enc Try.prog W 0 (fun _ => true) true Try.f6.params.toList args.toList ds p := hA0
  rw [Try.params6] at hA hval
  obtain ⟨v0, vs0, d0, ds0, p0, q0, hargs, rfl, rfl, h0, r0_⟩ := trodAll_cons hA
  obtain ⟨v1, vs1, d1, ds1, p1, q1, rfl, rfl, rfl, h1, r1_⟩ := trodAll_cons r0_
  obtain ⟨v2, vs2, d2, ds2, p2, q2, rfl, rfl, rfl, h2, r2_⟩ := trodAll_cons r1_
  obtain ⟨rfl, rfl, rfl⟩ := trodAll_nil r2_
  obtain rfl : args = #[v0, v1, v2] := by cases args; simp_all
  obtain ⟨rfl, rfl⟩ := trodVars_none hV
  have k0 := h0
  have lt0 : ∀ x ∈ p0, x.block < W.heap.size := by obtain ⟨m, hm⟩ := k0; exact DataW.trod_lt m _ _ _ hm
  obtain ⟨a0, rfl, rfl, rfl, w0⟩ := open_int Try.underlying3 (hval 0 3 v0 rfl rfl) h0
  have k1 := h1
  have lt1 : ∀ x ∈ p1, x.block < W.heap.size := by obtain ⟨m, hm⟩ := k1; exact DataW.trod_lt m _ _ _ hm
  obtain ⟨cs1, rfl, f1⟩ := open_flat [Option.none, Option.none, Option.none, Option.none, Option.none, Option.none, Option.none, Option.none, Option.none, Option.none, Option.none, Option.none, Option.none, Option.none, Option.none, Option.none, Option.none, Option.none, Option.none, Option.none, Option.none, Option.none, Option.none, Option.none, Option.none, Option.none, Option.none, Option.none, Option.none, Option.none, Option.none, Option.none, Option.none, Option.none, Option.none, Option.none, Option.none, Option.none] (by kernel_rfl) (by kernel_rfl) (hval 1 43 v1 rfl rfl) h1
  obtain ⟨c1_0, _, rfl, f1⟩ := f1
  obtain ⟨c1_1, _, rfl, f1⟩ := f1
  obtain ⟨c1_2, _, rfl, f1⟩ := f1
  obtain ⟨c1_3, _, rfl, f1⟩ := f1
  obtain ⟨c1_4, _, rfl, f1⟩ := f1
  obtain ⟨c1_5, _, rfl, f1⟩ := f1
  obtain ⟨c1_6, _, rfl, f1⟩ := f1
  obtain ⟨c1_7, _, rfl, f1⟩ := f1
  obtain ⟨c1_8, _, rfl, f1⟩ := f1
  obtain ⟨c1_9, _, rfl, f1⟩ := f1
  obtain ⟨c1_10, _, rfl, f1⟩ := f1
  obtain ⟨c1_11, _, rfl, f1⟩ := f1
  obtain ⟨c1_12, _, rfl, f1⟩ := f1
  obtain ⟨c1_13, _, rfl, f1⟩ := f1
  obtain ⟨c1_14, _, rfl, f1⟩ := f1
  obtain ⟨c1_15, _, rfl, f1⟩ := f1
  obtain ⟨c1_16, _, rfl, f1⟩ := f1
  obtain ⟨c1_17, _, rfl, f1⟩ := f1
  obtain ⟨c1_18, _, rfl, f1⟩ := f1
  obtain ⟨c1_19, _, rfl, f1⟩ := f1
  obtain ⟨c1_20, _, rfl, f1⟩ := f1
  obtain ⟨c1_21, _, rfl, f1⟩ := f1
  obtain ⟨c1_22, _, rfl, f1⟩ := f1
  obtain ⟨c1_23, _, rfl, f1⟩ := f1
  obtain ⟨c1_24, _, rfl, f1⟩ := f1
  obtain ⟨c1_25, _, rfl, f1⟩ := f1
  obtain ⟨c1_26, _, rfl, f1⟩ := f1
  obtain ⟨c1_27, _, rfl, f1⟩ := f1
  obtain ⟨c1_28, _, rfl, f1⟩ := f1
  obtain ⟨c1_29, _, rfl, f1⟩ := f1
  obtain ⟨c1_30, _, rfl, f1⟩ := f1
  obtain ⟨c1_31, _, rfl, f1⟩ := f1
  obtain ⟨c1_32, _, rfl, f1⟩ := f1
  obtain ⟨c1_33, _, rfl, f1⟩ := f1
  obtain ⟨c1_34, _, rfl, f1⟩ := f1
  obtain ⟨c1_35, _, rfl, f1⟩ := f1
  obtain ⟨c1_36, _, rfl, f1⟩ := f1
  obtain ⟨c1_37, _, rfl, f1⟩ := f1
  have f1 : _ = _ := f1
  subst f1
  have k2 := h2
  have lt2 : ∀ x ∈ p2, x.block < W.heap.size := by obtain ⟨m, hm⟩ := k2; exact DataW.trod_lt m _ _ _ hm
  obtain ⟨cs2, rfl, f2⟩ := open_flat [some .i64, some .i64] (by kernel_rfl) (by kernel_rfl) (hval 2 44 v2 rfl rfl) h2
  obtain ⟨c2_0, _, rfl, w2_0, f2⟩ := f2
  obtain ⟨c2_1, _, rfl, w2_1, f2⟩ := f2
  have f2 : _ = _ := f2
  subst f2
  clear hA0 hval0
  refine (law_DiscBack a0 (fun i => match i with | 0 => c1_0 | 1 => c1_1 | 2 => c1_2 | 3 => c1_3 | 4 => c1_4 | 5 => c1_5 | 6 => c1_6 | 7 => c1_7 | 8 => c1_8 | 9 => c1_9 | 10 => c1_10 | 11 => c1_11 | 12 => c1_12 | 13 => c1_13 | 14 => c1_14 | 15 => c1_15 | 16 => c1_16 | 17 => c1_17 | _ => c1_18) (fun i => match i with | 0 => c1_19 | 1 => c1_20 | 2 => c1_21 | 3 => c1_22 | 4 => c1_23 | 5 => c1_24 | 6 => c1_25 | 7 => c1_26 | 8 => c1_27 | 9 => c1_28 | 10 => c1_29 | 11 => c1_30 | 12 => c1_31 | 13 => c1_32 | 14 => c1_33 | 15 => c1_34 | 16 => c1_35 | 17 => c1_36 | _ => c1_37) c2_0 c2_1 W).mono fun e W' ⟨he, bel⟩ => ?_
  subst he
  exact ⟨_, rfl, _, _, _, [], _, [], hW', trodAll_mk1 (shut_bool Try.underlying4 _), (trodAll_cons_mk (Below.trod laidOut (by kernel_rfl) (of_decide_eq_true (by kernel_rfl)) k0 bel lt0) (trodAll_cons_mk (Below.trod laidOut (by kernel_rfl) (of_decide_eq_true (by kernel_rfl)) k1 bel lt1) (trodAll_cons_mk (Below.trod laidOut (by kernel_rfl) (of_decide_eq_true (by kernel_rfl)) k2 bel lt2) trodAll_mk0))), rfl, bel.frame _, fun h => by cases h⟩

theorem over : Rows.discBackRow.holds Try.pinned (OpenSpec.ofChange Rows.discBackSpec) :=
  OpenClaim.holds_of_wide 6 Try.f6 rfl rfl rfl rfl rfl rfl rfl ⟨rfl, rfl, rfl, rfl, rfl⟩ rfl rfl rfl rfl rfl (by kernel_rfl) Try.func6 (by kernel_rfl)
    (of_decide_eq_true (by kernel_rfl)) (by unfold Func.isWrapper; first | (rw [if_pos (by decide +kernel)]; kernel_rfl) | (rw [if_neg (by decide +kernel)]; exact ⟨rfl, rfl⟩))
    (fun os started H enc _ => lifted os started H enc)

/-- THE STATEMENT. -/
theorem proved : Rows.DiscBackSaid :=
  over
#print axioms proved
end Go.Proofs.Ytaijkngdelolgaa.discBack
