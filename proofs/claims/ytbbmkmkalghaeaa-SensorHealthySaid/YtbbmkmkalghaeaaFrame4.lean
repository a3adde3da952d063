/- A frame's bytes, the program's and the document's; the chapter's example; walked. -/
import Derived.Test.YtbbmkmkalghaeaaFrame3
import Derived.Deep.Cut
import Derived.Deep.AppendLies
import Derived.Laws.OwnMore
namespace Go.Proofs.Ytbbmkmkalghaeaa
open Go.ChangeShapes Go.WideShapes Go.ChangeAt Go.RowKit
set_option linter.unusedVariables false
set_option linter.unusedSimpArgs false

theorem info_u8 : (Try.prog.info? 5).map (fun i => (i.zero, i.size, i.bytes)) = some (some (.int .u8 0), 1, 1) := by kernel_rfl
theorem info_parts' {t : TypeId} {z : Value} {n b : Nat} (h : (Try.prog.info? t).map (fun i => (i.zero, i.size, i.bytes)) = some (some z, n, b)) : ∃ i, Try.prog.info? t = some i ∧ i.zero = some z ∧ i.size = n ∧ i.bytes = b := by
  cases e : Try.prog.info? t with
  | none => rw [e] at h; cases h
  | some i =>
    rw [e] at h
    injection h with h
    injection h with h1 h
    injection h with h2 h3
    exact ⟨i, rfl, h1, h2, h3⟩
def bvals (l : List Int) : List Value := l.map (Value.int .u8)
theorem bvals_at {l : List Int} {k : Nat} (h : k < l.length) : (bvals l)[k]? = some (.int .u8 (l.getD k 0)) := by simp [bvals, List.getD, h]
/-- The call's own row of bytes, as a row. -/
theorem own_bytes {w : World} {B n g cap : Nat} {l : List Int} (h : w.ownsRow B 5 1 (.slice (some ⟨g, 0, none⟩) n cap) n (bvals l)) (hn : 0 < n) (hl : l.length = n) : RowIs .u8 w (some ⟨g, 0, none⟩) l ∧ B ≤ g ∧ g < w.heap.size := by
  obtain ⟨hB, hlt⟩ := h.lt g rfl
  exact ⟨.inr ⟨g, 0, rfl, hlt, fun k hk => by rw [Nat.zero_add, h.cellAt k (by omega), bvals_at hk]⟩, hB, hlt⟩
theorem new_one8 (w : World) (v : Value) (t : TypeId) : ∀ j u, [v][j]? = some u → (w.alloc (.cells #[v] t)).cell? ((⟨w.heap.size, 0, none⟩ : Addr).add j) = some u := by
  intro j u hu
  rcases j with _ | j
  · simp at hu
    subst hu
    rw [show (⟨w.heap.size, 0, none⟩ : Addr).add 0 = ⟨w.heap.size, 0, none⟩ by simp [Addr.add]]
    go_simp
  · simp at hu
theorem one_byte (k : IntKind) (n : Int) : ∀ u ∈ [Value.int k n], u.oneCell' = true := fun u hu => by simp at hu; subst hu; rfl
/-- The bytes of a frame lie in the call's own new row. -/
def PutP (i s v t : Int) (w : World) (R : Value → Value) (e : Ending) (w' : World) : Prop := ∃ (g cap : Nat), e = .returned (R (.slice (some ⟨g, 0, none⟩) 8 cap)) ∧ w'.ownsRow w.heap.size 5 1 (.slice (some ⟨g, 0, none⟩) 8 cap) 8 (bvals (puL i s v t)) ∧ Below w.heap.size w w'
theorem pt_box (w : World) (i s v t : Int) : ∃ V, V = (w.alloc (.cells #[.int .i64 i, .int .i64 s, .int .i64 v, .int .i64 t] 45)) ∧ Below w.heap.size w V ∧ V.heap.size = w.heap.size + 1 ∧ ∀ u, Below (w.heap.size + 1) V u → u.cell? ⟨w.heap.size, 0, none⟩ = some (.int .i64 i) ∧ u.cell? ⟨w.heap.size, 1, none⟩ = some (.int .i64 s) ∧ u.cell? ⟨w.heap.size, 2, none⟩ = some (.int .i64 v) ∧ u.cell? ⟨w.heap.size, 3, none⟩ = some (.int .i64 t) :=
  ⟨_, rfl, (by repeat (first | exact Below.refl _ _ | assumption | apply Below.drew | apply below_drewN | (refine Below.alloc ?_ (by first | exact Nat.le_refl _ | omega | (simp <;> omega)) _) | (refine Below.setCell ?_ (by first | exact Nat.le_refl _ | omega | (simp <;> omega)) _))), by simp, fun u hu => ⟨(bc hu (by omega)).trans (by go_simp), (bc hu (by omega)).trans (by go_simp), (bc hu (by omega)).trans (by go_simp), (bc hu (by omega)).trans (by go_simp)⟩⟩
set_option maxRecDepth 100000 in
set_option maxHeartbeats 8000000 in
theorem rput_ok (i s v t : Int) (w : World) (h : frB i s v t = true) : Calls Try.prog 28 #[.agg #[.int .i64 i, .int .i64 s, .int .i64 v, .int .i64 t]] w (PutP i s v t w (fun x => x)) := by
  obtain ⟨V, eV, hb0, hz, hcs⟩ := pt_box w i s v t
  obtain ⟨a1, a2, a3, a4, a5, a6, a7, a8⟩ := frB_at h
  obtain ⟨i0, hi, hz0, hz1, hz2⟩ := info_parts' info_u8
  replace hi := Lib.hid hi
  replace hz0 := Lib.hid hz0
  replace hz1 := Lib.hid hz1
  replace hz2 := Lib.hid hz2
  obtain ⟨y3, e3⟩ : ∃ y, y = (v / 65536) % 256 := ⟨_, rfl⟩
  obtain ⟨y4, e4⟩ : ∃ y, y = (v / 256) % 256 := ⟨_, rfl⟩
  obtain ⟨y5, e5⟩ : ∃ y, y = v % 256 := ⟨_, rfl⟩
  obtain ⟨y6, e6⟩ : ∃ y, y = t % 256 := ⟨_, rfl⟩
  have eH : puH i s v t = [165, i, s, y3, y4, y5, y6] := by unfold puH; rw [← e3, ← e4, ← e5, ← e6]
  have eL : puL i s v t = [165, i, s, y3, y4, y5, y6] ++ [(256 - tot [165, i, s, y3, y4, y5, y6]) % 256] := by unfold puL; rw [eH]
  have v1 : IntKind.u8.wrap i = i := by rw [IntKind.wrap_u8]; omega
  have v2 : IntKind.u8.wrap s = s := by rw [IntKind.wrap_u8]; omega
  obtain ⟨n7, en⟩ : ∃ n, n = (256 - tot [165, i, s, y3, y4, y5, y6]) % 256 := ⟨_, rfl⟩
  have tb := tot_bd [165, i, s, y3, y4, y5, y6]
  have BY : BYT [165, i, s, y3, y4, y5, y6] := by
    intro k hk
    have hk7 : k < 7 := hk
    rcases (show k = 0 ∨ k = 1 ∨ k = 2 ∨ k = 3 ∨ k = 4 ∨ k = 5 ∨ k = 6 by omega) with rfl | rfl | rfl | rfl | rfl | rfl | rfl
    · show (0 : Int) ≤ 165 ∧ (165 : Int) < 256; omega
    · show 0 ≤ i ∧ i < 256; omega
    · show 0 ≤ s ∧ s < 256; omega
    · show 0 ≤ y3 ∧ y3 < 256; omega
    · show 0 ≤ y4 ∧ y4 < 256; omega
    · show 0 ≤ y5 ∧ y5 < 256; omega
    · show 0 ≤ y6 ∧ y6 < 256; omega
  have SM := Lib.hid (fun u (b : Nat) (hr : RowIs .u8 u (some ⟨b, 0, none⟩) [165, i, s, y3, y4, y5, y6]) => show Calls Try.prog 90 #[.slice (some ⟨b, 0, none⟩) 7 7] u _ from rtotal (some ⟨b, 0, none⟩) 7 [165, i, s, y3, y4, y5, y6] u hr (by show 7 ≤ maxLen; decide) BY)
  unfold PutP
  rw [eL, ← en]
  generalize tot [165, i, s, y3, y4, y5, y6] = tt at *
  have n1 : IntKind.i64.wrap (256 - tt) = 256 - tt := by rw [IntKind.wrap_i64]; omega
  have n2 : (256 - tt).tmod 256 = n7 := by rw [Int.tmod_eq_emod_of_nonneg (by omega), en]
  have n3 : IntKind.u8.wrap n7 = n7 := by rw [IntKind.wrap_u8]; omega
  clear en tb BY
  obtain ⟨vv, hvv⟩ : ∃ x, x = (if v < 0 then v + 16777216 else v) := ⟨_, rfl⟩
  obtain ⟨tt2, htt⟩ : ∃ x, x = (if t < 0 then t + 256 else t) := ⟨_, rfl⟩
  have u1 : v < 0 → IntKind.i64.wrap (v + 16777216) = vv := fun g => by rw [IntKind.wrap_i64]; omega
  have u2 : t < 0 → IntKind.i64.wrap (t + 256) = tt2 := fun g => by rw [IntKind.wrap_i64]; omega
  have u3 : 0 ≤ v → v = vv := fun g => by omega
  have u4 : 0 ≤ t → t = tt2 := fun g => by omega
  have q1 : vv.tdiv 65536 = vv / 65536 := Int.tdiv_eq_ediv_of_nonneg (by omega)
  have q2 : vv.tdiv 256 = vv / 256 := Int.tdiv_eq_ediv_of_nonneg (by omega)
  have q3 : (vv / 256).tmod 256 = y4 := by rw [Int.tmod_eq_emod_of_nonneg (by omega)]; omega
  have q4 : vv.tmod 256 = y5 := by rw [Int.tmod_eq_emod_of_nonneg (by omega)]; omega
  have z1 : wrap64 (vv / 65536) = vv / 65536 := by unfold wrap64; omega
  have z2 : wrap64 (vv / 256) = vv / 256 := by unfold wrap64; omega
  have x3 : vv / 65536 % 256 = y3 := by omega
  have x4 : y4 % 256 = y4 := by omega
  have x5 : IntKind.u8.wrap y5 = y5 := by rw [IntKind.wrap_u8]; omega
  have x6 : IntKind.u8.wrap tt2 = y6 := by rw [IntKind.wrap_u8]; omega
  clear h a1 a2 a3 a4 a5 a6 a7 a8 eH eL e3 e4 e5 e6 hvv htt
  replace hb0 := Lib.hid hb0
  replace hz := Lib.hid hz
  replace hcs := Lib.hid hcs
  replace eV := Lib.hid eV
  obtain ⟨W1, eW, hbW, hOW, hsW⟩ : ∃ W1, W1 = V.alloc (.cells #[.int .u8 165, .int .u8 i, .int .u8 s, .int .u8 y3, .int .u8 y4, .int .u8 y5, .int .u8 y6] 5) ∧ Below V.heap.size V W1 ∧ W1.ownsRow w.heap.size 5 1 (.slice (some ⟨V.heap.size, 0, none⟩) 7 7) 7 (bvals [165, i, s, y3, y4, y5, y6]) ∧ w.heap.size + 1 ≤ V.heap.size := ⟨_, rfl, (Below.refl _ _).alloc (Nat.le_refl _) _, World.ownsRow_lit V _ 7 (by have := hz.out; omega) (by decide) rfl, by have := hz.out; omega⟩
  replace eW := Lib.hid eW
  have hO := Lib.hid hOW
  have hsz := Lib.hid (show w.heap.size ≤ W1.heap.size from by have := hbW.size; omega)
  have hb2 := (Below.refl (w.heap.size + 1) V).trans (hbW.mono (by omega))
  replace hb2 := Lib.hid hb2
  have hR := Lib.hid (own_bytes hOW (by decide) rfl).1
  clear hbW hOW hsW
  rcases (show (v < 0 ∧ t < 0) ∨ (v < 0 ∧ 0 ≤ t) ∨ (0 ≤ v ∧ t < 0) ∨ (0 ≤ v ∧ 0 ≤ t) by omega) with ⟨g1, g2⟩ | ⟨g1, g2⟩ | ⟨g1, g2⟩ | ⟨g1, g2⟩
  · replace u1 := u1 g1
    clear u3
    replace u2 := u2 g2
    clear u4
    go_enter Try.func28, Try.ntmps28
    go_upto_region 1 with (fail)
    rw [← eV.out]
    obtain ⟨k0, k1, k2, k3⟩ := hcs.out _ (Below.refl _ _)
    go_upto_region 8 with (fail)
    rw [← eW.out]
    clear k0 k1 k2 k3
    go_wp2_with fail
    refine (SM.out _ _ hR.out).mono ?_
    rintro e w3 ⟨rfl, rfl⟩
    go_wp2_with (first | (at_builtin; refine wpList_append_lies _ rfl (.tmp 37) (.tmp 43) _ rfl w.heap.size 5 i0 (.int .u8 0) 1 1 Try.underlying28 hi.out hz0.out hz1.out hz2.out rfl (by decide) _ 7 (bvals [165, i, s, y3, y4, y5, y6]) rfl (hO.out.alloc _) ⟨_, 0, none⟩ 1 1 [.int .u8 n7] rfl rfl (new_one8 _ _ _) (one_byte _ _) (by decide) (by unfold maxLen; omega) (by omega) (by simp; have := hsz.out; omega) _ rfl ?_; intro g cap w9 ho hg hgg hlt1; replace ho := Lib.hid ho; replace hg := Lib.hid hg; clear hlt1 hgg))
    go_ret
    refine ⟨g, cap, rfl, ?_, ?_⟩
    · have := ho.out
      exact this
    · refine (hb0.out.trans (hb2.out.mono (by omega))).trans ?_
      refine ⟨hg.out.os, hg.out.tape, hg.out.output, by have := hg.out.size; simp at this; omega, fun k hk => (hg.out.block k (by simp; have := hsz.out; omega) (fun e => ?_)).trans ((World.grownBy_alloc _ _ none).block k (by have := hsz.out; omega) (by simp))⟩
      have := (hO.out.lt _ e.symm).1
      omega
  · replace u1 := u1 g1
    clear u3
    have g4 := u4 g2
    subst g4
    clear u2 u4
    go_enter Try.func28, Try.ntmps28
    go_upto_region 1 with (fail)
    rw [← eV.out]
    obtain ⟨k0, k1, k2, k3⟩ := hcs.out _ (Below.refl _ _)
    go_upto_region 8 with (fail)
    rw [← eW.out]
    clear k0 k1 k2 k3
    go_wp2_with fail
    refine (SM.out _ _ hR.out).mono ?_
    rintro e w3 ⟨rfl, rfl⟩
    go_wp2_with (first | (at_builtin; refine wpList_append_lies _ rfl (.tmp 37) (.tmp 43) _ rfl w.heap.size 5 i0 (.int .u8 0) 1 1 Try.underlying28 hi.out hz0.out hz1.out hz2.out rfl (by decide) _ 7 (bvals [165, i, s, y3, y4, y5, y6]) rfl (hO.out.alloc _) ⟨_, 0, none⟩ 1 1 [.int .u8 n7] rfl rfl (new_one8 _ _ _) (one_byte _ _) (by decide) (by unfold maxLen; omega) (by omega) (by simp; have := hsz.out; omega) _ rfl ?_; intro g cap w9 ho hg hgg hlt1; replace ho := Lib.hid ho; replace hg := Lib.hid hg; clear hlt1 hgg))
    go_ret
    refine ⟨g, cap, rfl, ?_, ?_⟩
    · have := ho.out
      exact this
    · refine (hb0.out.trans (hb2.out.mono (by omega))).trans ?_
      refine ⟨hg.out.os, hg.out.tape, hg.out.output, by have := hg.out.size; simp at this; omega, fun k hk => (hg.out.block k (by simp; have := hsz.out; omega) (fun e => ?_)).trans ((World.grownBy_alloc _ _ none).block k (by have := hsz.out; omega) (by simp))⟩
      have := (hO.out.lt _ e.symm).1
      omega
  · have g3 := u3 g1
    subst g3
    clear u1 u3
    replace u2 := u2 g2
    clear u4
    go_enter Try.func28, Try.ntmps28
    go_upto_region 1 with (fail)
    rw [← eV.out]
    obtain ⟨k0, k1, k2, k3⟩ := hcs.out _ (Below.refl _ _)
    go_upto_region 8 with (fail)
    rw [← eW.out]
    clear k0 k1 k2 k3
    go_wp2_with fail
    refine (SM.out _ _ hR.out).mono ?_
    rintro e w3 ⟨rfl, rfl⟩
    go_wp2_with (first | (at_builtin; refine wpList_append_lies _ rfl (.tmp 37) (.tmp 43) _ rfl w.heap.size 5 i0 (.int .u8 0) 1 1 Try.underlying28 hi.out hz0.out hz1.out hz2.out rfl (by decide) _ 7 (bvals [165, i, s, y3, y4, y5, y6]) rfl (hO.out.alloc _) ⟨_, 0, none⟩ 1 1 [.int .u8 n7] rfl rfl (new_one8 _ _ _) (one_byte _ _) (by decide) (by unfold maxLen; omega) (by omega) (by simp; have := hsz.out; omega) _ rfl ?_; intro g cap w9 ho hg hgg hlt1; replace ho := Lib.hid ho; replace hg := Lib.hid hg; clear hlt1 hgg))
    go_ret
    refine ⟨g, cap, rfl, ?_, ?_⟩
    · have := ho.out
      exact this
    · refine (hb0.out.trans (hb2.out.mono (by omega))).trans ?_
      refine ⟨hg.out.os, hg.out.tape, hg.out.output, by have := hg.out.size; simp at this; omega, fun k hk => (hg.out.block k (by simp; have := hsz.out; omega) (fun e => ?_)).trans ((World.grownBy_alloc _ _ none).block k (by have := hsz.out; omega) (by simp))⟩
      have := (hO.out.lt _ e.symm).1
      omega
  · have g3 := u3 g1
    subst g3
    clear u1 u3
    have g4 := u4 g2
    subst g4
    clear u2 u4
    go_enter Try.func28, Try.ntmps28
    go_upto_region 1 with (fail)
    rw [← eV.out]
    obtain ⟨k0, k1, k2, k3⟩ := hcs.out _ (Below.refl _ _)
    go_upto_region 8 with (fail)
    rw [← eW.out]
    clear k0 k1 k2 k3
    go_wp2_with fail
    refine (SM.out _ _ hR.out).mono ?_
    rintro e w3 ⟨rfl, rfl⟩
    go_wp2_with (first | (at_builtin; refine wpList_append_lies _ rfl (.tmp 37) (.tmp 43) _ rfl w.heap.size 5 i0 (.int .u8 0) 1 1 Try.underlying28 hi.out hz0.out hz1.out hz2.out rfl (by decide) _ 7 (bvals [165, i, s, y3, y4, y5, y6]) rfl (hO.out.alloc _) ⟨_, 0, none⟩ 1 1 [.int .u8 n7] rfl rfl (new_one8 _ _ _) (one_byte _ _) (by decide) (by unfold maxLen; omega) (by omega) (by simp; have := hsz.out; omega) _ rfl ?_; intro g cap w9 ho hg hgg hlt1; replace ho := Lib.hid ho; replace hg := Lib.hid hg; clear hlt1 hgg))
    go_ret
    refine ⟨g, cap, rfl, ?_, ?_⟩
    · have := ho.out
      exact this
    · refine (hb0.out.trans (hb2.out.mono (by omega))).trans ?_
      refine ⟨hg.out.os, hg.out.tape, hg.out.output, by have := hg.out.size; simp at this; omega, fun k hk => (hg.out.block k (by simp; have := hsz.out; omega) (fun e => ?_)).trans ((World.grownBy_alloc _ _ none).block k (by have := hsz.out; omega) (by simp))⟩
      have := (hO.out.lt _ e.symm).1
      omega
end Go.Proofs.Ytbbmkmkalghaeaa
