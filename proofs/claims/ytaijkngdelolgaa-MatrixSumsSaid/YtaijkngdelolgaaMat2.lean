/- Package matrix: what is built of a function; turned, multiplied, mirrored; the unit. -/
import Derived.Test.YtaijkngdelolgaaMat1
import Derived.Shelf.Abstract
namespace Go.Proofs.Ytaijkngdelolgaa
open Go.ChangeShapes Go.WideShapes Go.ChangeAt Go.RowKit
set_option linter.unusedVariables false
set_option linter.unusedSimpArgs false

/-- Nine cells, the first n of them told. -/
def mC (M : Nat → Int) (n : Nat) : List Value := (List.range 9).map fun t => .int .i64 (if t < n then M t else 0)
theorem mC_len (M : Nat → Int) (n : Nat) : (mC M n).length = 9 := by simp [mC]
theorem mC_at (M : Nat → Int) (n t : Nat) (h : t < 9) : (mC M n)[t]? = some (.int .i64 (if t < n then M t else 0)) := by simp [mC, h]
theorem mC_set (M : Nat → Int) (n : Nat) (h : n < 9) : (mC M n).set n (.int .i64 (M n)) = mC M (n + 1) := by
  apply List.ext_getElem?
  intro t
  by_cases ht : t < 9
  · by_cases e : n = t
    · subst e
      rw [List.getElem?_set_self (by rw [mC_len]; exact h), mC_at _ _ _ ht, if_pos (by omega)]
    · rw [List.getElem?_set_ne e, mC_at _ _ _ ht, mC_at _ _ _ ht]
      by_cases g : t < n
      · rw [if_pos g, if_pos (by omega)]
      · rw [if_neg g, if_neg (by omega)]
  · rw [List.getElem?_eq_none (by simp [mC_len]; omega), List.getElem?_eq_none (by rw [mC_len]; omega)]
theorem mC_zero (M : Nat → Int) : mC M 0 = [.int .i64 0, .int .i64 0, .int .i64 0, .int .i64 0, .int .i64 0, .int .i64 0, .int .i64 0, .int .i64 0, .int .i64 0] := by simp [mC, List.range_succ]
theorem mC_all (M : Nat → Int) : mC M 9 = [.int .i64 (M 0), .int .i64 (M 1), .int .i64 (M 2), .int .i64 (M 3), .int .i64 (M 4), .int .i64 (M 5), .int .i64 (M 6), .int .i64 (M 7), .int .i64 (M 8)] := by simp [mC, List.range_succ]
def mlay (s : Nat) (X : Nat → Int) (u : World) : Nat → World
  | 0 => u
  | n + 1 => (mlay s X u n).setCell ⟨s, n, none⟩ (.int .i64 (X n))
theorem mlay_held {s : Nat} {u : World} {cs : List Value} (h : Held s cs u) (X : Nat → Int) : ∀ n, n ≤ cs.length → ∃ ds : List Value, ds.length = cs.length ∧ (∀ t, t < n → ds[t]? = some (.int .i64 (X t))) ∧ Held s ds (mlay s X u n) ∧ Below s u (mlay s X u n)
  | 0, _ => ⟨cs, rfl, fun t ht => absurd ht (Nat.not_lt_zero t), h, Below.refl _ _⟩
  | n + 1, hn => by
    obtain ⟨ds, h1, h2, h3, h4⟩ := mlay_held h X n (by omega)
    refine ⟨ds.set n (.int .i64 (X n)), by simpa using h1, fun t ht => ?_, h3.set n _ (by omega), h4.setCell (by exact Nat.le_refl _) _⟩
    by_cases e : n = t
    · subst e
      exact List.getElem?_set_self (by omega)
    · rw [List.getElem?_set_ne e]
      exact h2 t (by omega)
theorem ml_laid {s : Nat} {u : World} {cs : List Value} (h : Held s cs u) (hc : cs.length = 9) (X : Nat → Int) : ∃ u9, u9 = (((((((((u.setCell ⟨s, 0, none⟩ (.int .i64 (X 0))).setCell ⟨s, 1, none⟩ (.int .i64 (X 1))).setCell ⟨s, 2, none⟩ (.int .i64 (X 2))).setCell ⟨s, 3, none⟩ (.int .i64 (X 3))).setCell ⟨s, 4, none⟩ (.int .i64 (X 4))).setCell ⟨s, 5, none⟩ (.int .i64 (X 5))).setCell ⟨s, 6, none⟩ (.int .i64 (X 6))).setCell ⟨s, 7, none⟩ (.int .i64 (X 7))).setCell ⟨s, 8, none⟩ (.int .i64 (X 8))) ∧ Held s [.int .i64 (X 0), .int .i64 (X 1), .int .i64 (X 2), .int .i64 (X 3), .int .i64 (X 4), .int .i64 (X 5), .int .i64 (X 6), .int .i64 (X 7), .int .i64 (X 8)] u9 ∧ Below s u u9 := by
  obtain ⟨ds, h1, h2, h3, h4⟩ := mlay_held h X 9 (by omega)
  refine ⟨mlay s X u 9, rfl, ⟨h3.lt, fun i v hv => ?_, fun i hi => h3.f i (by rw [h1, hc]; simpa using hi)⟩, h4⟩
  have hi : i < 9 := by
    rcases Nat.lt_or_ge i 9 with q | q
    · exact q
    · rw [List.getElem?_eq_none (by simpa using q)] at hv; cases hv
  refine h3.c i v ?_
  rw [h2 i hi, ← hv]
  rcases (show i = 0 ∨ i = 1 ∨ i = 2 ∨ i = 3 ∨ i = 4 ∨ i = 5 ∨ i = 6 ∨ i = 7 ∨ i = 8 by omega) with rfl | rfl | rfl | rfl | rfl | rfl | rfl | rfl | rfl <;> rfl
theorem mz_box (w : World) : ∃ V, V = (w.alloc (.cells #[.int .i64 0, .int .i64 0, .int .i64 0, .int .i64 0, .int .i64 0, .int .i64 0, .int .i64 0, .int .i64 0, .int .i64 0] 72)).alloc (.cells #[.int .i64 0, .int .i64 0, .int .i64 0, .int .i64 0, .int .i64 0, .int .i64 0, .int .i64 0, .int .i64 0, .int .i64 0] 72) ∧ Below w.heap.size w V ∧ Held w.heap.size [.int .i64 0, .int .i64 0, .int .i64 0, .int .i64 0, .int .i64 0, .int .i64 0, .int .i64 0, .int .i64 0, .int .i64 0] V ∧ Held (w.heap.size + 1) [.int .i64 0, .int .i64 0, .int .i64 0, .int .i64 0, .int .i64 0, .int .i64 0, .int .i64 0, .int .i64 0, .int .i64 0] V ∧ V.heap.size = w.heap.size + 2 := by
  refine ⟨_, rfl, (by repeat (first | exact Below.refl _ _ | assumption | apply Below.drew | apply below_drewN | (refine Below.alloc ?_ (by first | exact Nat.le_refl _ | omega | (simp <;> omega)) _) | (refine Below.setCell ?_ (by first | exact Nat.le_refl _ | omega | (simp <;> omega)) _))), (Held.new w [.int .i64 0, .int .i64 0, .int .i64 0, .int .i64 0, .int .i64 0, .int .i64 0, .int .i64 0, .int .i64 0, .int .i64 0] _).alloc _, ?_, by simp⟩
  have := Held.new (w.alloc (.cells #[.int .i64 0, .int .i64 0, .int .i64 0, .int .i64 0, .int .i64 0, .int .i64 0, .int .i64 0, .int .i64 0, .int .i64 0] 72)) [.int .i64 0, .int .i64 0, .int .i64 0, .int .i64 0, .int .i64 0, .int .i64 0, .int .i64 0, .int .i64 0, .int .i64 0] 72
  simpa using this
set_option maxRecDepth 100000 in
set_option maxHeartbeats 8000000 in
theorem mbuild (g : Nat) (cb : Array Value) (M : Nat → Int) (J : World → Prop) (bu : Nat) (w : World) (eg : ∀ args w, (callFunc g args).run Try.prog w = .ok (.enter g args) w) (n0 : bu ≠ w.heap.size) (n1 : bu ≠ w.heap.size + 1)
    (hJ : ∀ u u', J u → Below w.heap.size u u' → J u') (h0 : J w)
    (hf : ∀ (u : World) (i j : Nat), i < 3 → j < 3 → J u → Calls Try.prog g (#[.int .i64 (i : Int), .int .i64 (j : Int)] ++ cb) u fun e u' => e = .returned (.int .i64 (M (i * 3 + j))) ∧ J u' ∧ Beside bu u u') :
    Calls Try.prog 51 #[.func (.func g) #[] cb] w fun e w' => e = .returned (.agg #[.int .i64 (M 0), .int .i64 (M 1), .int .i64 (M 2), .int .i64 (M 3), .int .i64 (M 4), .int .i64 (M 5), .int .i64 (M 6), .int .i64 (M 7), .int .i64 (M 8)]) ∧ J w' ∧ Beside bu w w' := by
  obtain ⟨V, eV, hb0, hR, hM, hz⟩ := mz_box w
  have J0 := Lib.hid (hJ _ _ h0 hb0)
  have B0 := Lib.hid (show Beside bu w V from .of_below hb0)
  replace hR := Lib.hid hR
  have hM := Lib.hid (show Held (w.heap.size + 1) (mC M 0) V by rw [mC_zero]; exact hM)
  replace eV := Lib.hid eV
  replace hz := Lib.hid hz
  have HF := Lib.hid hf
  replace hJ := Lib.hid hJ
  clear hf h0 hb0
  go_enter Try.func51, Try.ntmps51
  go_upto_region 2 with (fail)
  rw [← eV.out]
  go_wp2_with fail
  go_loopw [6] (fun i u => ∃ a : Nat, a ≤ 3 ∧ i = .int .i64 (a : Int) ∧ Hid (Held (w.heap.size + 1) (mC M (a * 3)) u) ∧ Hid (Held w.heap.size [.int .i64 0, .int .i64 0, .int .i64 0, .int .i64 0, .int .i64 0, .int .i64 0, .int .i64 0, .int .i64 0, .int .i64 0] u) ∧ Hid (J u) ∧ Hid (Beside bu w u)) (fun i _ => 3 - (intOf i).toNat)
  case atStart => exact ⟨0, by omega, rfl, hM, hR, J0, B0⟩
  case round =>
    clear hM hR J0 B0
    obtain ⟨a, ha, rfl, hM, hR, J0, B0⟩ := hrel
    by_cases hlt : a < 3
    · have ha3 : (a : Int) < 3 := by omega
      generalize wr = v0 at *
      go_wp2_with fail
      go_loopw [9] (fun j u => ∃ c : Nat, c ≤ 3 ∧ j = .int .i64 (c : Int) ∧ Hid (Held (w.heap.size + 1) (mC M (a * 3 + c)) u) ∧ Hid (Held w.heap.size [.int .i64 0, .int .i64 0, .int .i64 0, .int .i64 0, .int .i64 0, .int .i64 0, .int .i64 0, .int .i64 0, .int .i64 0] u) ∧ Hid (J u) ∧ Hid (Beside bu w u)) (fun j _ => 3 - (intOf j).toNat)
      case atStart => exact ⟨0, by omega, rfl, hM, hR, J0, B0⟩
      case round =>
        clear hM hR J0 B0
        obtain ⟨c, hc, rfl, hM, hR, J0, B0⟩ := hrel
        by_cases hlc : c < 3
        · have hc3 : (c : Int) < 3 := by omega
          generalize wr = v1 at *
          have HC := Lib.hid (HF.out v1.drew a c hlt hlc (hJ.out _ _ J0.out (Below.refl _ _).drew))
          have hst := Lib.hid (mC_set M (a * 3 + c) (by omega))
          generalize M (a * 3 + c) = Y at *
          go_wp2_with fail
          refine region_moves (fun _ => True) [(8, [(7, 8), (5, 8), (0, 8), (1, 8), (2, 8), (3, 8), (4, 8), (6, 7)])] [(.free, 0), (.free, 1), (.free, 2), (.free, 3), (.free, 4), (.free, 6), (.step, 5), (.free, 7), (.late, 8)] _ (by kernel_rfl) (by kernel_rfl) (by kernel_rfl) (by kernel_rfl) (by decide) rfl (fun _ _ _ _ _ h => h) ?_
          simp only [List.filterMap_cons, List.filterMap_nil, List.getElem?_toArray, List.getElem?_cons_zero, List.getElem?_cons_succ, Option.map_some]
          iterate 6
            first
              | (refine mv_free ?_ (Or.inl ⟨by rfl, ?_⟩) (trivial) ?_
                 rotate_left 1
                 · intro u
                   go_simp
                   try simp only [d1]
                   try simp only [d2]
                   try simp only [d3]
                   try with_reducible rfl
                 simp only [Act.put, List.setIfInBounds_toArray, List.set_cons_zero, List.set_cons_succ])
              | (refine mv_free _ (Or.inr ⟨by rfl, rfl⟩) (trivial) ?_
                 simp only [Act.put, List.setIfInBounds_toArray, List.set_cons_zero, List.set_cons_succ])
          refine mv_step (fun K hK => ?_)
          go_simp
          go_at_fn g
          refine HC.out.mono ?_
          rintro e w1 ⟨rfl, J1, B1⟩
          have hM1 := hM.out.drew.beside B1 (fun e => n1 e.symm)
          have hR1 := hR.out.drew.beside B1 (fun e => n0 e.symm)
          have BB1 := (B0.out.trans (.of_below (Below.refl _ _).drew)).trans B1
          have ck := hM1.c (a * 3 + c) _ (mC_at M _ _ (by omega))
          have fk := hM1.f (a * 3 + c) (by rw [mC_len]; omega)
          have hM2 := Lib.hid (hst.out ▸ hM1.set (a * 3 + c) (.int .i64 Y) (by rw [mC_len]; omega))
          have hR2 := Lib.hid (hR1.only ((Only.refl (w.heap.size + 1) w1).setCell (p := ⟨w.heap.size + 1, a * 3 + c, none⟩) (.int .i64 Y)) (show w.heap.size ≠ w.heap.size + 1 by omega))
          have bs := B0.out.size
          have J2 := Lib.hid (hJ.out _ _ J1 ((Below.refl w.heap.size w1).setCell (p := ⟨w.heap.size + 1, a * 3 + c, none⟩) (by show w.heap.size ≤ w.heap.size + 1; omega) (.int .i64 Y)))
          have B2 := Lib.hid (show Beside bu w (w1.setCell ⟨w.heap.size + 1, a * 3 + c, none⟩ (.int .i64 Y)) from
            ⟨BB1.os, BB1.tape, BB1.output, by simpa using BB1.size, fun k hk hb => by
              have := ((Only.refl (w.heap.size + 1) w1).setCell (p := ⟨w.heap.size + 1, a * 3 + c, none⟩) (.int .i64 Y)).block k (by show k ≠ w.heap.size + 1; omega)
              exact this.trans (BB1.block k hk hb)⟩)
          clear HC hst J1 B1 hM1 hR1 BB1 bs hM hR J0 B0
          go_wp2_with fail
          refine hK.out _ _ _ (fun u hu => hu) (trivial) ?_
          clear hK K
          iterate 1
            first
              | (refine mv_free ?_ (Or.inl ⟨by rfl, ?_⟩) (trivial) ?_
                 rotate_left 1
                 · intro u
                   go_simp
                   try simp only [d1]
                   try simp only [d2]
                   try simp only [d3]
                   try with_reducible rfl
                 simp only [Act.put, List.setIfInBounds_toArray, List.set_cons_zero, List.set_cons_succ])
              | (refine mv_free _ (Or.inr ⟨by rfl, rfl⟩) (trivial) ?_
                 simp only [Act.put, List.setIfInBounds_toArray, List.set_cons_zero, List.set_cons_succ])
          refine mv_late (fun K hK => ?_)
          go_simp
          refine hK.out (fun _ => True) _ _ ?_
          clear hK K
          refine mv_done ?_
          generalize w1.setCell ⟨w.heap.size + 1, a * 3 + c, none⟩ (.int .i64 Y) = w2 at *
          have hM3 := Lib.hid hM2.out.drew
          have hR3 := Lib.hid hR2.out.drew
          have J3 := Lib.hid (hJ.out _ _ J2.out (Below.refl _ _).drew)
          have B3 := Lib.hid (B2.out.trans (.of_below (Below.refl _ _).drew))
          go_wp2
          go_roundw
          case rel => exact ⟨c + 1, by omega, by go_num, hM2, hR2, J2, B2⟩
          case measure => simp [intOf]; omega
        · obtain rfl : c = 3 := by omega
          go_wp2
          go_roundw
          case rel => exact ⟨a + 1, by omega, by go_num, by rw [show (a + 1) * 3 = a * 3 + 3 by omega]; exact hM, hR, J0, B0⟩
          case measure => simp [intOf]; omega
    · obtain rfl : a = 3 := by omega
      have hMM := hM.out
      rw [show 3 * 3 = 9 from rfl, mC_all] at hMM
      have hRR := hR.out
      obtain ⟨u9, e9, h9, b9⟩ := ml_laid hRR rfl M
      have J9 := Lib.hid (hJ.out _ _ J0.out b9)
      have B9 := Lib.hid (show Beside bu w u9 from ⟨b9.os.trans B0.out.os, b9.tape.trans B0.out.tape, b9.output.trans B0.out.output, Nat.le_trans B0.out.size b9.size, fun k hk hb => (b9.block k hk).trans (B0.out.block k hk hb)⟩)
      replace e9 := Lib.hid e9
      obtain ⟨c0, f0⟩ := hMM.one 0 rfl
      obtain ⟨c1, f1⟩ := hMM.one 1 rfl
      obtain ⟨c2, f2⟩ := hMM.one 2 rfl
      obtain ⟨c3, f3⟩ := hMM.one 3 rfl
      obtain ⟨c4, f4⟩ := hMM.one 4 rfl
      obtain ⟨c5, f5⟩ := hMM.one 5 rfl
      obtain ⟨c6, f6⟩ := hMM.one 6 rfl
      obtain ⟨c7, f7⟩ := hMM.one 7 rfl
      obtain ⟨c8, f8⟩ := hMM.one 8 rfl
      obtain ⟨p0, q0⟩ := hRR.one 0 rfl
      obtain ⟨p1, q1⟩ := hRR.one 1 rfl
      obtain ⟨p2, q2⟩ := hRR.one 2 rfl
      obtain ⟨p3, q3⟩ := hRR.one 3 rfl
      obtain ⟨p4, q4⟩ := hRR.one 4 rfl
      obtain ⟨p5, q5⟩ := hRR.one 5 rfl
      obtain ⟨p6, q6⟩ := hRR.one 6 rfl
      obtain ⟨p7, q7⟩ := hRR.one 7 rfl
      obtain ⟨p8, q8⟩ := hRR.one 8 rfl
      clear hM hR J0 B0 hMM hRR b9
      go_wp2
      rw [← e9.out]
      obtain ⟨y0, z0⟩ := h9.one 0 rfl
      obtain ⟨y1, z1⟩ := h9.one 1 rfl
      obtain ⟨y2, z2⟩ := h9.one 2 rfl
      obtain ⟨y3, z3⟩ := h9.one 3 rfl
      obtain ⟨y4, z4⟩ := h9.one 4 rfl
      obtain ⟨y5, z5⟩ := h9.one 5 rfl
      obtain ⟨y6, z6⟩ := h9.one 6 rfl
      obtain ⟨y7, z7⟩ := h9.one 7 rfl
      obtain ⟨y8, z8⟩ := h9.one 8 rfl
      exact bodyPost_ret (v := .agg #[.int .i64 (M 0), .int .i64 (M 1), .int .i64 (M 2), .int .i64 (M 3), .int .i64 (M 4), .int .i64 (M 5), .int .i64 (M 6), .int .i64 (M 7), .int .i64 (M 8)]) (by simp [results, Try.results51, go_sem, y0, y1, y2, y3, y4, y5, y6, y7, y8]) rfl ⟨rfl, J9.out, B9.out⟩
end Go.Proofs.Ytaijkngdelolgaa
