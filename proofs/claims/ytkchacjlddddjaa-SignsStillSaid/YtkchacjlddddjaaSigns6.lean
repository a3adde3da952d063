/- The law SignsStill, walked. -/
import Derived.Test.YtkchacjlddddjaaSigns3
namespace Go.Proofs.Ytkchacjlddddjaa
open Go.ChangeShapes Go.WideShapes Go.ChangeAt Go.RowKit
set_option linter.unusedVariables false

/-- The anchor behind k steps of one value x, against fst at first. -/
def Stl (x fst : Int) (k : Nat) (an : Bool) (va r st : Int) : Prop := (k = 0 ∧ an = false ∧ st = 0) ∨ (1 ≤ k ∧ an = true ∧ va = x ∧ r = fst ∧ st = k - 1)
theorem stl_step {ep mv tk fl hi x fst : Int} {k : Nat} {an : Bool} {va r st lo y : Int} (ok : SgOk ep mv tk fl hi) (h : Stl x fst k an va r st) (h0 : k = 0 → y = fst) :
    sgV ep an va x = x ∧ sgA ep an va x r y = fst ∧ sgS ep an va x st = k := by
  have e1 := ok.ep1
  unfold sgV sgA sgS sgK
  rcases h with ⟨rfl, rfl, rfl⟩ | ⟨h1, rfl, rfl, rfl, rfl⟩
  · simp [h0 rfl]
  · have : far va va ≤ ep := by unfold far; omega
    simp [this]
theorem stl_out {mv tk st y r lo : Int} : 0 ≤ sgOut mv tk st y r lo ∧ sgOut mv tk st y r lo ≤ 3 ∧ sgOut mv tk st y r lo % 2 = if sgF mv tk st y r = true then 1 else 0 := by
  unfold sgOut
  cases sgF mv tk st y r <;> simp <;> split <;> simp

set_option maxHeartbeats 4000000 in
theorem law_SignsStill (ep mv tk fl hi v : Int) (a : Option Addr) (cap : Nat) (l : List Int) (w : World) (hrow : RowIs .i64 w a l) (hl : l.length ≤ maxLen) :
    Calls Try.prog 11 #[.agg #[.int .i64 ep, .int .i64 mv, .int .i64 tk, .int .i64 fl, .int .i64 hi], .int .i64 v, .slice a l.length cap] w fun e w' => e = .returned (.bool true) ∧ Below w.heap.size w w' := by
  unfold maxLen at hl
  have hq0 := Held.new w [.int .i64 ep, .int .i64 mv, .int .i64 tk, .int .i64 fl, .int .i64 hi] 57
  have hb0 : Below w.heap.size w (w.alloc (.cells #[.int .i64 ep, .int .i64 mv, .int .i64 tk, .int .i64 fl, .int .i64 hi] 57)) := (Below.refl _ _).alloc (Nat.le_refl _) _
  cases hR : sgR ep mv tk fl hi
  · go_enter Try.func11, Try.ntmps11
    go_wp2_with fail
    refine (sgnew_no ep mv tk fl hi _ hR).mono ?_
    rintro e w1 ⟨rfl, hb1⟩
    have hb1 := hb0.trans (hb1.mono hb0.size)
    go_wp2_with (go_at_call 42; refine (lives23 _).mono ?_; rintro e w1 ⟨rfl, hb2⟩)
    go_ret
    exact ⟨rfl, hb1.trans (hb2.mono hb1.size)⟩
  · have ok := sgR_ok hR
    have e1 := ok.ep1
    have e2 := ok.ep2
    have hm1 := ok.mv1
    have hm2 := ok.mv2
    go_enter Try.func11, Try.ntmps11
    go_wp2_with fail
    refine (sgnew_ok ep mv tk fl hi _ hR).mono ?_
    rintro e w1 ⟨b, hb, rfl, k1, hb1⟩
    have hq1 := hq0.bel hb1
    have hbel1 := hb0.trans (hb1.mono hb0.size)
    have hbw : w.heap.size < b := by simp at hb; omega
    clear hq0 hb0 hb1 hb
    by_cases hbig : 100 < l.length
    · go_wp2_with (go_at_call 42; refine (lives23 _).mono ?_; rintro e w1 ⟨rfl, hb2⟩)
      go_ret
      exact ⟨rfl, hbel1.trans (hb2.mono hbel1.size)⟩
    by_cases hz : l.length = 0
    · obtain rfl := List.eq_nil_of_length_eq_zero hz
      clear hz hbig
      go_wp2_with (go_at_call 42; refine (lives23 _).mono ?_; rintro e w1 ⟨rfl, hb2⟩)
      go_ret
      exact ⟨rfl, hbel1.trans (hb2.mono hbel1.size)⟩
    · have g1 : l.length ≤ 100 := by omega
      have g2 : 0 < l.length := by omega
      have g3 : ((l.length : Int) == 0) = false := by rw [beq_eq_false_iff_ne]; omega
      clear hbig hz
      obtain ⟨rb, off, ra, hrb, hcell0⟩ := hrow.at g2
      have c0 : w1.cell? ⟨rb, off, none⟩ = some (.int .i64 (l.getD 0 0)) := (bc hbel1 hrb).trans hcell0
      have HROW := Lib.hid hrow
      subst ra
      clear hrow hcell0
      obtain ⟨z0, hz0⟩ : ∃ q, l.getD 0 0 = q := ⟨_, rfl⟩
      rw [hz0] at c0
      replace hz0 := Lib.hid hz0
      obtain ⟨fst, hfst⟩ : ∃ q, clq z0 = q := ⟨_, rfl⟩
      have fb := clq_bd z0
      have F0 := r16clip_any z0
      rw [hfst] at fb F0
      replace hfst := Lib.hid hfst
      replace F0 := Lib.hid F0
      go_wp2_with ((go_at_call 27; (with_reducible refine (F0.out _).mono ?_); rintro e w' ⟨rfl, rfl⟩))
      go_loopw [10] (fun i u => ∃ (k : Nat) (an : Bool) (va r st lo : Int), k ≤ l.length ∧ i = .int .i64 k ∧ Hid (Stl (clq v) fst k an va r st) ∧ -549755813887 ≤ va ∧ va ≤ 549755813887 ∧ -549755813887 ≤ r ∧ r ≤ 549755813887 ∧ 0 ≤ st ∧ st ≤ k ∧ 0 ≤ lo ∧ lo ≤ k ∧ Held b (sgC ep mv tk fl hi an va r st lo) u ∧ Held w.heap.size [.int .i64 ep, .int .i64 mv, .int .i64 tk, .int .i64 fl, .int .i64 hi] u ∧ Below w.heap.size w u) (fun i _ => l.length - (intOf i).toNat)
      case atStart => exact ⟨0, false, 0, 0, 0, 0, Nat.zero_le _, rfl, Lib.hid (.inl ⟨rfl, rfl, rfl⟩), by omega, by omega, by omega, by omega, by omega, by omega, by omega, by omega, k1, hq1, hbel1⟩
      case round =>
        clear k1 hq1 hbel1 c0
        obtain ⟨k, an, va, r, st, lo, hk, rfl, hst, va1, va2, r1, r2, st1, st2, lo1, lo2, hh, hq, hbel⟩ := hrel
        by_cases hlt : k < l.length
        · obtain ⟨rb', off', ra, hrb', hcell⟩ := HROW.out.at hlt
          injection ra with ra
          injection ra with ra1 ra2 _
          subst ra1 ra2
          have kc : wr.cell? ⟨rb, off + k, none⟩ = some (.int .i64 (l.getD k 0)) := (bc hbel hrb).trans hcell
          clear hcell hrb'
          have hy0 : k = 0 → clq (l.getD k 0) = fst := fun h => by subst h; rw [hz0.out]; exact hfst.out
          have yb := clq_bd (l.getD k 0)
          have YC := fun u => r16clip_any (l.getD k 0) u
          have ST := fun u (hu : Held b (sgC ep mv tk fl hi an va r st lo) u) => sstep_any b v (l.getD k 0) u hu va1 va2 r1 r2 st1 (by omega) lo1 (by omega)
          have lb := sgL_bd fl hi (clq v) (clq (l.getD k 0)) lo lo1
          have E := stl_step ok (lo := lo) (y := clq (l.getD k 0)) hst.out hy0
          rw [E.1, E.2.1, E.2.2] at ST
          have G := stl_out (mv := mv) (tk := tk) (st := k) (y := clq (l.getD k 0)) (r := fst) (lo := sgL fl hi (clq v) (clq (l.getD k 0)) lo)
          generalize sgOut mv tk k (clq (l.getD k 0)) fst (sgL fl hi (clq v) (clq (l.getD k 0)) lo) = g at ST G
          generalize sgL fl hi (clq v) (clq (l.getD k 0)) lo = lo' at ST lb
          have vb := clq_bd v
          have nst : Hid (Stl (clq v) fst (k + 1) true (clq v) fst k) := Lib.hid (.inr ⟨by omega, rfl, rfl, rfl, by push_cast; omega⟩)
          generalize clq v = x at ST nst vb
          generalize clq (l.getD k 0) = y at *
          generalize l.getD k 0 = y0 at *
          obtain ⟨g1', g2', g3'⟩ := G
          have hF : sgF mv tk k y fst = decide ((mv < y - fst ∨ mv < fst - y) ∧ tk ≤ k) := by
            unfold sgF far; rw [Bool.eq_iff_iff]; simp; omega
          rw [hF] at g3'
          clear hF E hy0 hst hfst HROW hz0
          replace ST := Lib.hid ST
          replace YC := Lib.hid YC
          obtain ⟨q0, f0⟩ := hq.one 0 rfl
          obtain ⟨q1, f1⟩ := hq.one 1 rfl
          obtain ⟨q2, f2⟩ := hq.one 2 rfl
          obtain ⟨q3, f3⟩ := hq.one 3 rfl
          obtain ⟨q4, f4⟩ := hq.one 4 rfl
          by_cases d1 : mv < y - fst <;> by_cases d2 : mv < fst - y <;> by_cases d3 : tk ≤ k
          all_goals try (exfalso; omega)
          all_goals
            simp [d1, d2, d3] at g3'
            go_wp2_with ((go_at_call 27; (with_reducible refine (YC.out _).mono ?_); rintro e w' ⟨rfl, rfl⟩))
            refine (ST.out _ hh).mono ?_
            rintro e w2 ⟨rfl, h2, o2⟩
            have hq2 := hq.only o2 (by omega)
            have hb2 : Below w.heap.size w w2 := hbel.trans (o2.below (by omega))
            clear q0 q1 q2 q3 q4 f0 f1 f2 f3 f4 kc
            obtain ⟨q0, f0⟩ := hq2.one 0 rfl
            obtain ⟨q1, f1⟩ := hq2.one 1 rfl
            obtain ⟨q2, f2⟩ := hq2.one 2 rfl
            obtain ⟨q3, f3⟩ := hq2.one 3 rfl
            obtain ⟨q4, f4⟩ := hq2.one 4 rfl
            go_wp2
            go_roundw
            case rel => exact ⟨k + 1, true, x, fst, k, lo', by omega, by go_num, nst, vb.1, vb.2, fb.1, fb.2, by omega, by push_cast; omega, lb.1, by push_cast; omega, h2, hq2, hb2⟩
            case measure => simp [intOf]; omega
        · clear HROW
          go_wp2_with (go_at_call 42; refine (lives23 _).mono ?_; rintro e w1 ⟨rfl, hb2⟩)
          go_ret
          exact ⟨rfl, hbel.trans (hb2.mono hbel.size)⟩
end Go.Proofs.Ytkchacjlddddjaa
