/- The law SignsClear, walked. -/
import Derived.Test.YtkchacjlddddjaaSigns3
namespace Go.Proofs.Ytkchacjlddddjaa
open Go.ChangeShapes Go.WideShapes Go.ChangeAt Go.RowKit
set_option linter.unusedVariables false

/-- A row of two numbers of a table, in whatever world that keeps what was. -/
theorem two_at {w : World} {t : Option Addr} {rows : List (List Value)} (h : Tab [some .i64, some .i64] w t rows) {i : Nat} (hi : i < rows.length) :
    ∃ tb off x y, t = some ⟨tb, off, none⟩ ∧ tb < w.heap.size ∧ (Lit.int .i64 x).wf = true ∧ (Lit.int .i64 y).wf = true ∧ ∀ v, Below w.heap.size w v → v.cell? ⟨tb, off + i * 2, none⟩ = some (.int .i64 x) ∧ v.cell? ⟨tb, off + i * 2 + 1, none⟩ = some (.int .i64 y) := by
  obtain ⟨tb, off, r, rfl, htb, hr, hfl, hcell⟩ := h.at hi
  obtain ⟨x, _, rfl, wx, hfl⟩ := hfl
  obtain ⟨y, _, rfl, wy, hfl⟩ := hfl
  exact ⟨tb, off, x, y, rfl, htb, wx, wy, fun v hv => ⟨(bc hv htb).trans (hcell 0 _ rfl), (bc hv htb).trans (hcell 1 _ rfl)⟩⟩

/-- What a step of a value that has gone further than ep tells. -/
theorem clr_step {ep mv tk fl hi : Int} (ok : SgOk ep mv tk fl hi) {an : Bool} {v r st lo x y : Int} (h : an = true → ep < far x v) :
    sgS ep an v x st = 0 ∧ sgV ep an v x = x ∧ sgA ep an v x r y = y ∧ (sgOut mv tk (sgS ep an v x st) y (sgA ep an v x r y) (sgL fl hi x y lo) = 0 ∨ (x < fl ∧ sgOut mv tk (sgS ep an v x st) y (sgA ep an v x r y) (sgL fl hi x y lo) = 2)) := by
  have hk : sgK ep an v x = false := by
    unfold sgK
    cases an
    · rfl
    · have := h rfl
      simp
      omega
  have e1 : sgS ep an v x st = 0 := by unfold sgS; rw [hk]; rfl
  have e2 : sgV ep an v x = x := by unfold sgV; rw [hk]; rfl
  have e3 : sgA ep an v x r y = y := by unfold sgA; rw [hk]; rfl
  refine ⟨e1, e2, e3, ?_⟩
  rw [e1, e3]
  have hf : sgF mv tk 0 y y = false := by
    have := ok.tk1
    unfold sgF
    simp
    omega
  unfold sgOut
  rw [hf]
  by_cases hx : x < fl
  · by_cases ht : tk ≤ sgL fl hi x y lo
    · right; exact ⟨hx, by simp [ht]⟩
    · left; simp [ht]
  · left
    have : sgL fl hi x y lo = 0 := by unfold sgL; simp [hx]
    rw [this]
    have := ok.tk1
    simp
    omega

/-- Where the value has come to behind k steps. -/
def Clr (ep fr : Int) (k : Nat) (v : Int) : Prop := (k % 2 = 0 → -999 * k ≤ v - fr ∧ v - fr ≤ 999 * k) ∧ (k % 2 = 1 → ep - 999 * k + 1000 ≤ v - fr ∧ v - fr ≤ ep + 999 * k + 1000)
theorem clr_up {ep fr : Int} {k : Nat} {v m : Int} (h : Clr ep fr k v) (hk : k % 2 = 0) (m1 : -999 ≤ m) (m2 : m ≤ 999) : Clr ep fr (k + 1) (v + (m + 1000 + ep)) := by
  have := h.1 hk
  exact ⟨fun h' => by omega, fun h' => by omega⟩
theorem clr_dn {ep fr : Int} {k : Nat} {v m : Int} (h : Clr ep fr k v) (hk : k % 2 = 1) (m1 : -999 ≤ m) (m2 : m ≤ 999) : Clr ep fr (k + 1) (v + -(m + 1000 + ep)) := by
  have := h.2 hk
  exact ⟨fun h' => by omega, fun h' => by omega⟩
theorem clr_bd {ep fr : Int} {k : Nat} {v : Int} (h : Clr ep fr k v) (hk : k ≤ 100) (e1 : 0 ≤ ep) (e2 : ep ≤ 1073741824) (f1 : -1000000 ≤ fr) (f2 : fr ≤ 1000000) : -3000000000 ≤ v ∧ v ≤ 3000000000 := by
  rcases Nat.mod_two_eq_zero_or_one k with h0 | h0
  · have := h.1 h0; omega
  · have := h.2 h0; omega

set_option maxHeartbeats 4000000 in
theorem law_SignsClear (ep mv tk fl hi fr : Int) (t : Option Addr) (cap : Nat) (rows : List (List Value)) (w : World) (ht : Tab [some .i64, some .i64] w t rows) (hl : rows.length ≤ maxLen) :
    Calls Try.prog 10 #[.agg #[.int .i64 ep, .int .i64 mv, .int .i64 tk, .int .i64 fl, .int .i64 hi], .int .i64 fr, .slice t rows.length cap] w fun e w' => e = .returned (.bool true) ∧ Below w.heap.size w w' := by
  unfold maxLen at hl
  have hq0 := Held.new w [.int .i64 ep, .int .i64 mv, .int .i64 tk, .int .i64 fl, .int .i64 hi] 57
  have hb0 : Below w.heap.size w (w.alloc (.cells #[.int .i64 ep, .int .i64 mv, .int .i64 tk, .int .i64 fl, .int .i64 hi] 57)) := (Below.refl _ _).alloc (Nat.le_refl _) _
  cases hR : sgR ep mv tk fl hi
  · go_enter Try.func10, Try.ntmps10
    go_wp2_with fail
    refine (sgnew_no ep mv tk fl hi _ hR).mono ?_
    rintro e w1 ⟨rfl, hb1⟩
    have hb1 := hb0.trans (hb1.mono hb0.size)
    go_wp2_with (go_at_call 42; refine (lives23 _).mono ?_; rintro e w1 ⟨rfl, hb2⟩)
    go_ret
    exact ⟨rfl, hb1.trans (hb2.mono hb1.size)⟩
  · have ok := sgR_ok hR
    have e1 := ok.ep1
    have e2 := ok.ep2
    go_enter Try.func10, Try.ntmps10
    go_wp2_with fail
    refine (sgnew_ok ep mv tk fl hi _ hR).mono ?_
    rintro e w1 ⟨b, hb, rfl, k1, hb1⟩
    have hq1 := hq0.bel hb1
    have hbel1 := hb0.trans (hb1.mono hb0.size)
    have hbw : w.heap.size < b := by simp at hb; omega
    clear hq0 hb0 hb1 hb
    by_cases hbig : 100 < rows.length ∨ fr < -1000000 ∨ 1000000 < fr
    · go_wp2_with (go_at_call 42; refine (lives23 _).mono ?_; rintro e w1 ⟨rfl, hb2⟩)
      all_goals first | (exfalso; omega) | skip
      all_goals
        go_ret
        exact ⟨rfl, hbel1.trans (hb2.mono hbel1.size)⟩
    · have g1 : rows.length ≤ 100 := by omega
      have g2 : -1000000 ≤ fr := by omega
      have g3 : fr ≤ 1000000 := by omega
      clear hbig
      go_wp2_with fail
      go_loopw [9, 10] (fun vv i u => ∃ (k : Nat) (v : Int) (an : Bool) (va r lo : Int), k ≤ rows.length ∧ i = .int .i64 k ∧ vv = .int .i64 v ∧ Hid (Clr ep fr k v) ∧ Hid (an = true → va = v) ∧ -549755813887 ≤ va ∧ va ≤ 549755813887 ∧ -549755813887 ≤ r ∧ r ≤ 549755813887 ∧ 0 ≤ lo ∧ lo ≤ k ∧ Held b (sgC ep mv tk fl hi an va r 0 lo) u ∧ Held w.heap.size [.int .i64 ep, .int .i64 mv, .int .i64 tk, .int .i64 fl, .int .i64 hi] u ∧ Below w.heap.size w u) (fun _ i _ => rows.length - (intOf i).toNat)
      case atStart => exact ⟨0, fr, false, 0, 0, 0, Nat.zero_le _, rfl, rfl, Lib.hid ⟨fun _ => by omega, fun h => by omega⟩, Lib.hid (fun h => by cases h), by omega, by omega, by omega, by omega, by omega, by omega, k1, hq1, hbel1⟩
      case round =>
        clear k1 hq1 hbel1
        obtain ⟨k, v, an, va, r, lo, hk, rfl, rfl, hclr, hva, va1, va2, r1, r2, lo1, lo2, hh, hq, hbel⟩ := hrel
        by_cases hlt : k < rows.length
        · obtain ⟨tb, off, x, y, rfl, htb, wx, wy, hcells⟩ := two_at ht hlt
          obtain ⟨k0, k1⟩ := hcells wr hbel
          have hcells := Lib.hid hcells
          have bx := i64_bd wx
          have vb := clr_bd hclr.out (by omega) e1 e2 g2 g3
          obtain ⟨q0, f0⟩ := hq.one 0 rfl
          obtain ⟨q1, f1⟩ := hq.one 1 rfl
          obtain ⟨q2, f2⟩ := hq.one 2 rfl
          obtain ⟨q3, f3⟩ := hq.one 3 rfl
          obtain ⟨q4, f4⟩ := hq.one 4 rfl
          clear ht
          obtain ⟨m, hm⟩ : ∃ m, x.tmod 1000 = m := ⟨_, rfl⟩
          have mb := tmod_bd x 1000 (by omega)
          rw [hm] at mb
          have m1 : -999 ≤ m := by omega
          have m2 : m ≤ 999 := by omega
          have z2 : IntKind.i64.wrap (m + 1000) = m + 1000 := IntWalk.i64_in _ ⟨by omega, by omega⟩
          have z3 : IntKind.i64.wrap (m + 1000 + ep) = m + 1000 + ep := IntWalk.i64_in _ ⟨by omega, by omega⟩
          clear mb
          have ST := Lib.hid (fun (v' : Int) u (hu : Held b (sgC ep mv tk fl hi an va r 0 lo) u) => sstep_any b v' y u hu va1 va2 r1 r2 (by omega) (by omega) lo1 (by omega))
          have lb := fun v' => sgL_bd fl hi v' (clq y) lo lo1
          have lb := Lib.hid lb
          have yb := clq_bd y
          rcases Nat.mod_two_eq_zero_or_one k with hpar | hpar
          · have hp : (k : Int) % 2 = 0 := by omega
            have cl := clr_up hclr.out hpar m1 m2
            have cb := clr_bd cl (by omega) e1 e2 g2 g3
            have ci : clq (v + (m + 1000 + ep)) = v + (m + 1000 + ep) := clq_id (by omega) (by omega)
            have CS := clr_step ok (an := an) (v := va) (r := r) (st := 0) (lo := lo) (x := v + (m + 1000 + ep)) (y := clq y) (fun h => by rw [hva.out h]; unfold far; omega)
            have ST := ST.out (v + (m + 1000 + ep))
            rw [ci] at ST
            rw [CS.1, CS.2.1, CS.2.2.1] at ST CS
            replace lb := lb.out (v + (m + 1000 + ep))
            generalize sgL fl hi (v + (m + 1000 + ep)) (clq y) lo = lo' at ST CS lb
            replace CS := CS.2.2.2
            generalize sgOut mv tk 0 (clq y) (clq y) lo' = g at ST CS
            replace ST := Lib.hid ST
            clear ci
            have cl := Lib.hid cl
            clear hpar
            go_wp2_with fail
            go_quiet (fail)
            clear z2 z3 hm
            have k3 := k1
            go_wp2_with fail
            refine (ST.out _ (hh.drewN _)).mono ?_
            rintro e w2 ⟨rfl, h2, o2⟩
            have o2 : Only b wr w2 := ⟨o2.os, o2.tape, o2.output, o2.size, o2.block⟩
            have hq2 := hq.only o2 (by omega)
            have hb2 : Below w.heap.size w w2 := hbel.trans (o2.below (by omega))
            clear q0 q1 q2 q3 q4 f0 f1 f2 f3 f4 k0 k1 k3
            obtain ⟨q0, f0⟩ := hq2.one 0 rfl
            obtain ⟨q1, f1⟩ := hq2.one 1 rfl
            obtain ⟨q2, f2⟩ := hq2.one 2 rfl
            obtain ⟨q3, f3⟩ := hq2.one 3 rfl
            obtain ⟨q4, f4⟩ := hq2.one 4 rfl
            rcases CS with rfl | ⟨hx, rfl⟩
            all_goals
              go_wp2
              all_goals
                go_roundw
                case rel => exact ⟨k + 1, v + (m + 1000 + ep), true, v + (m + 1000 + ep), clq y, lo', by omega, by go_num, rfl, cl, Lib.hid (fun _ => rfl), by omega, by omega, yb.1, yb.2, lb.1, by push_cast; omega, h2, hq2, hb2⟩
                case measure => simp [intOf]; omega
          · have hp : (k : Int) % 2 = 1 := by omega
            have cl := clr_dn hclr.out hpar m1 m2
            have cb := clr_bd cl (by omega) e1 e2 g2 g3
            have ci : clq (v + -(m + 1000 + ep)) = v + -(m + 1000 + ep) := clq_id (by omega) (by omega)
            have CS := clr_step ok (an := an) (v := va) (r := r) (st := 0) (lo := lo) (x := v + -(m + 1000 + ep)) (y := clq y) (fun h => by rw [hva.out h]; unfold far; omega)
            have ST := ST.out (v + -(m + 1000 + ep))
            rw [ci] at ST
            rw [CS.1, CS.2.1, CS.2.2.1] at ST CS
            replace lb := lb.out (v + -(m + 1000 + ep))
            generalize sgL fl hi (v + -(m + 1000 + ep)) (clq y) lo = lo' at ST CS lb
            replace CS := CS.2.2.2
            generalize sgOut mv tk 0 (clq y) (clq y) lo' = g at ST CS
            replace ST := Lib.hid ST
            clear ci
            have cl := Lib.hid cl
            clear hpar
            go_wp2_with fail
            go_quiet (fail)
            clear z2 z3 hm
            have k3 := k1
            go_wp2_with fail
            refine (ST.out _ (hh.drewN _)).mono ?_
            rintro e w2 ⟨rfl, h2, o2⟩
            have o2 : Only b wr w2 := ⟨o2.os, o2.tape, o2.output, o2.size, o2.block⟩
            have hq2 := hq.only o2 (by omega)
            have hb2 : Below w.heap.size w w2 := hbel.trans (o2.below (by omega))
            clear q0 q1 q2 q3 q4 f0 f1 f2 f3 f4 k0 k1 k3
            obtain ⟨q0, f0⟩ := hq2.one 0 rfl
            obtain ⟨q1, f1⟩ := hq2.one 1 rfl
            obtain ⟨q2, f2⟩ := hq2.one 2 rfl
            obtain ⟨q3, f3⟩ := hq2.one 3 rfl
            obtain ⟨q4, f4⟩ := hq2.one 4 rfl
            rcases CS with rfl | ⟨hx, rfl⟩
            all_goals
              go_wp2
              all_goals
                go_roundw
                case rel => exact ⟨k + 1, v + -(m + 1000 + ep), true, v + -(m + 1000 + ep), clq y, lo', by omega, by go_num, rfl, cl, Lib.hid (fun _ => rfl), by omega, by omega, yb.1, yb.2, lb.1, by push_cast; omega, h2, hq2, hb2⟩
                case measure => simp [intOf]; omega
        · go_wp2_with (go_at_call 42; refine (lives23 _).mono ?_; rintro e w1 ⟨rfl, hb2⟩)
          go_ret
          exact ⟨rfl, hbel.trans (hb2.mono hbel.size)⟩
end Go.Proofs.Ytkchacjlddddjaa
