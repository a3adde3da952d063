/- Proved: the law DiscPuts of package aneroidlaw29 returns true for every input, and every argument reads behind the call as it did before. Conditions: none beyond the row's own. -/
import Derived.Test.YtaijkngdelolgaaDisc3
namespace Go.Proofs.Ytaijkngdelolgaa.discPuts
open Go.ChangeShapes Go.WideShapes Go.ChangeAt Go.RowKit
open Go.ChangeMaps (open_string shut_string)
open Go.Joins
set_option linter.unusedVariables false

set_option maxRecDepth 100000 in
theorem lifted (os : Os) (started : os.Started) (H : Type) (enc : TypeId × Value → H) :
    ReturnsInHanded {} Try.checked os 3 .any (Rows.discPutsSpec.pre6 enc Try.prog Try.f3 Rows.discPutsRow.domain false) (Rows.discPutsSpec.post enc Try.prog Try.f3 false true false false) := by
  refine returnsInHanded_of_change (C := Try.checked) own started (by kernel_rfl) Try.func3
    (ChangeSpec.witness6 (enc := enc) (C := Try.checked) false ⟨#[], #[.int .i64 0, .agg #[.bool false, .bool false, .bool false, .bool false, .bool false, .bool false, .bool false, .bool false, .bool false, .bool false, .bool false, .bool false, .bool false, .bool false, .bool false, .bool false, .bool false, .bool false, .bool false], .int .i64 0], []⟩ 8 (by kernel_rfl) (by kernel_rfl) (by kernel_rfl) (by kernel_rfl)) ?_
  intro W base args ds gs before hval0 hW hcnd _
  have hval : ∀ (j : Nat) t v, Try.f3.params[j]? = some t → args[j]? = some v → Value.okWide Try.prog W .any base t v := hval0
  have hW' := hW
  obtain ⟨p, q, hA0, hV, rfl, hfz, hnd⟩ := hW
  have hA : DataW.TrodAll enc Try.prog W 0 (fun _ => true) true Try.f3.params.toList args.toList ds p := hA0
  rw [Try.params3] at hA hval
  obtain ⟨v0, vs0, d0, ds0, p0, q0, hargs, rfl, rfl, h0, r0_⟩ := trodAll_cons hA
  obtain ⟨v1, vs1, d1, ds1, p1, q1, rfl, rfl, rfl, h1, r1_⟩ := trodAll_cons r0_
  obtain ⟨v2, vs2, d2, ds2, p2, q2, rfl, rfl, rfl, h2, r2_⟩ := trodAll_cons r1_
  obtain ⟨rfl, rfl, rfl⟩ := trodAll_nil r2_
  obtain rfl : args = #[v0, v1, v2] := by cases args; simp_all
  obtain ⟨rfl, rfl⟩ := trodVars_none hV
  have k0 := h0
  have lt0 : ∀ x ∈ p0, x.block < W.heap.size := by obtain ⟨m, hm⟩ := k0; exact DataW.trod_lt m _ _ _ hm
  obtain ⟨a0, rfl, rfl, rfl, w0⟩ := open_int Try.underlying3 (hval 0 3 v0 rfl rfl) h0
  have k1 := h1
  have lt1 : ∀ x ∈ p1, x.block < W.heap.size := by obtain ⟨m, hm⟩ := k1; exact DataW.trod_lt m _ _ _ hm
  obtain ⟨cs1, rfl, f1⟩ := open_flat [Option.none, Option.none, Option.none, Option.none, Option.none, Option.none, Option.none, Option.none, Option.none, Option.none, Option.none, Option.none, Option.none, Option.none, Option.none, Option.none, Option.none, Option.none, Option.none] (by kernel_rfl) (by kernel_rfl) (hval 1 23 v1 rfl rfl) h1
  obtain ⟨c1_0, _, rfl, f1⟩ := f1
  obtain ⟨c1_1, _, rfl, f1⟩ := f1
  obtain ⟨c1_2, _, rfl, f1⟩ := f1
  obtain ⟨c1_3, _, rfl, f1⟩ := f1
  obtain ⟨c1_4, _, rfl, f1⟩ := f1
  obtain ⟨c1_5, _, rfl, f1⟩ := f1
  obtain ⟨c1_6, _, rfl, f1⟩ := f1
  obtain ⟨c1_7, _, rfl, f1⟩ := f1
  obtain ⟨c1_8, _, rfl, f1⟩ := f1
  obtain ⟨c1_9, _, rfl, f1⟩ := f1
  obtain ⟨c1_10, _, rfl, f1⟩ := f1
  obtain ⟨c1_11, _, rfl, f1⟩ := f1
  obtain ⟨c1_12, _, rfl, f1⟩ := f1
  obtain ⟨c1_13, _, rfl, f1⟩ := f1
  obtain ⟨c1_14, _, rfl, f1⟩ := f1
  obtain ⟨c1_15, _, rfl, f1⟩ := f1
  obtain ⟨c1_16, _, rfl, f1⟩ := f1
  obtain ⟨c1_17, _, rfl, f1⟩ := f1
  obtain ⟨c1_18, _, rfl, f1⟩ := f1
  have f1 : _ = _ := f1
  subst f1
  have k2 := h2
  have lt2 : ∀ x ∈ p2, x.block < W.heap.size := by obtain ⟨m, hm⟩ := k2; exact DataW.trod_lt m _ _ _ hm
  obtain ⟨a2, rfl, rfl, rfl, w2⟩ := open_int Try.underlying3 (hval 2 3 v2 rfl rfl) h2
  clear hA0 hval0
  refine (law_DiscPuts a0 (fun i => match i with | 0 => c1_0 | 1 => c1_1 | 2 => c1_2 | 3 => c1_3 | 4 => c1_4 | 5 => c1_5 | 6 => c1_6 | 7 => c1_7 | 8 => c1_8 | 9 => c1_9 | 10 => c1_10 | 11 => c1_11 | 12 => c1_12 | 13 => c1_13 | 14 => c1_14 | 15 => c1_15 | 16 => c1_16 | 17 => c1_17 | _ => c1_18) a2 W).mono fun e W' ⟨he, bel⟩ => ?_
  subst he
  exact ⟨_, rfl, _, _, _, [], _, [], hW', trodAll_mk1 (shut_bool Try.underlying4 _), (trodAll_cons_mk (Below.trod laidOut (by kernel_rfl) (of_decide_eq_true (by kernel_rfl)) k0 bel lt0) (trodAll_cons_mk (Below.trod laidOut (by kernel_rfl) (of_decide_eq_true (by kernel_rfl)) k1 bel lt1) (trodAll_cons_mk (Below.trod laidOut (by kernel_rfl) (of_decide_eq_true (by kernel_rfl)) k2 bel lt2) trodAll_mk0))), rfl, bel.frame _, fun h => by cases h⟩

theorem over : Rows.discPutsRow.holds Try.pinned (OpenSpec.ofChange Rows.discPutsSpec) :=
  OpenClaim.holds_of_wide 3 Try.f3 rfl rfl rfl rfl rfl rfl rfl ⟨rfl, rfl, rfl, rfl, rfl⟩ rfl rfl rfl rfl rfl (by kernel_rfl) Try.func3 (by kernel_rfl)
    (of_decide_eq_true (by kernel_rfl)) (by unfold Func.isWrapper; first | (rw [if_pos (by decide +kernel)]; kernel_rfl) | (rw [if_neg (by decide +kernel)]; exact ⟨rfl, rfl⟩))
    (fun os started H enc _ => lifted os started H enc)

/-- THE STATEMENT. -/
theorem proved : Rows.DiscPutsSaid :=
  over
#print axioms proved
end Go.Proofs.Ytaijkngdelolgaa.discPuts
