/- The law TallyFew, walked. -/
import Derived.Test.YtmoamadpaepcfaaTally3
namespace Go.Proofs.Ytmoamadpaepcfaa
open Go.ChangeShapes Go.WideShapes Go.ChangeAt Go.RowKit
set_option linter.unusedVariables false

theorem few_plain {u d s m : Int} (ok : TlOk u d s m) {n sum : Int} {l : Bool} (x : Bool) (h0 : 0 ≤ n) (hm : n ≤ m) (h1 : n ≤ sum) (h2 : l = true → s ≤ sum) :
    let n' := tnx u d m n x
    let sum' := if x then sum + u else sum
    0 ≤ n' ∧ n' ≤ m ∧ n' ≤ sum' ∧ ((l || decide (s ≤ n')) = true → s ≤ sum') := by
  have hb := tnx_bd ok h0 hm x
  obtain ⟨u1, u2, d1, d2, s1, s2, m1, m2⟩ := ok
  refine ⟨hb.1, hb.2, ?_, ?_⟩
  · unfold tnx
    cases x <;> simp <;> omega
  · intro h
    simp at h
    unfold tnx at h
    cases x <;> simp at h ⊢ <;> (rcases h with h | h <;> first | (have := h2 h; omega) | omega)

set_option maxHeartbeats 4000000 in
theorem law_TallyFew (u d s m : Int) (a : Option Addr) (cap : Nat) (rows : List (List Value)) (w : World) (ht : Tab [none] w a rows) (hl : rows.length ≤ maxLen) :
    Calls Try.prog 6 #[.agg #[.int .i64 u, .int .i64 d, .int .i64 s, .int .i64 m], .slice a rows.length cap] w fun e w' => e = .returned (.bool true) ∧ Below w.heap.size w w' := by
  unfold maxLen at hl
  cases hR : tlR u d s m
  · go_enter Try.func6, Try.ntmps6
    go_wp2_with fail
    refine (tnew_no u d s m _ hR).mono ?_
    rintro e w1 ⟨rfl, hb1⟩
    go_wp2_with (go_at_call 23; refine (lives22 _).mono ?_; rintro e w1 ⟨rfl, hb2⟩)
    go_ret
    have := hb1.size
    simp at this
    exact ⟨rfl, (Below.trans (by repeat (first | exact Below.refl _ _ | assumption | apply Below.drew | apply below_drewN | (refine Below.alloc ?_ (by first | exact Nat.le_refl _ | omega | (simp <;> omega)) _) | (refine Below.setCell ?_ (by first | exact Nat.le_refl _ | omega | (simp <;> omega)) _))) (hb1.mono (by simp))).trans (hb2.mono (by omega))⟩
  · have ok := tlR_ok hR
    go_enter Try.func6, Try.ntmps6
    go_wp2_with fail
    have hq0 := Held.new w [.int .i64 u, .int .i64 d, .int .i64 s, .int .i64 m] 23
    have hbq : Below w.heap.size w (w.alloc (.cells #[.int .i64 u, .int .i64 d, .int .i64 s, .int .i64 m] 23)) := (Below.refl _ _).alloc (Nat.le_refl _) _
    refine (tnew_ok u d s m _ hR).mono ?_
    rintro e w1 ⟨b, hb, rfl, h1, hb1⟩
    have hq := hq0.bel hb1
    have hbel := hbq.trans (hb1.mono hbq.size)
    have hbw : w.heap.size < b := by simp at hb; omega
    clear hq0 hb1 hb hbq
    by_cases hbig : 200 < rows.length
    · go_wp2_with (go_at_call 23; refine (lives22 _).mono ?_; rintro e w1 ⟨rfl, hb2⟩)
      go_ret
      exact ⟨rfl, hbel.trans (hb2.mono hbel.size)⟩
    · go_wp2_with fail
      go_loopw [7, 8] (fun sm i v => ∃ (k : Nat) (sum n : Int) (l : Bool), k ≤ rows.length ∧ i = .int .i64 k ∧ sm = .int .i64 sum ∧ 0 ≤ n ∧ n ≤ m ∧ n ≤ sum ∧ sum ≤ 1000 * k ∧ (l = true → s ≤ sum) ∧ Held b (tlC u d s m n l) v ∧ Held w.heap.size [.int .i64 u, .int .i64 d, .int .i64 s, .int .i64 m] v ∧ Below w.heap.size w v) (fun _ i _ => rows.length - (intOf i).toNat)
      case atStart => exact ⟨0, 0, 0, false, Nat.zero_le _, rfl, rfl, by omega, by have := ok.s1; have := ok.m1; omega, by omega, by omega, by simp, h1, hq, hbel⟩
      case round =>
        obtain ⟨k, sum, n, l, hk, rfl, rfl, n0, nm, ns, sk, hls, hh, hq, hbel⟩ := hrel
        clear h1
        by_cases hlt : k < rows.length
        · obtain ⟨tb, off, r, rfl, htb, hr, hfl, hcell⟩ := ht.at hlt
          obtain ⟨x, r', rfl, hr'⟩ := hfl
          have hc : wr.cell? ⟨tb, off + k, none⟩ = some (.bool x) := (hbel.cell (p := ⟨tb, off + k, none⟩) htb).trans (by simpa using hcell 0 _ rfl)
          have hcb : tb ≠ b := by omega
          have FP := Lib.hid (few_plain ok x n0 nm ns hls)
          have ST := Lib.hid (tstep_any b x wr hh ok n0 nm)
          have n1 := (FP.out).1
          have n2 := (FP.out).2.1
          have n3 := (FP.out).2.2.1
          have n4 := (FP.out).2.2.2
          clear FP hcell hls ht hr hr'
          generalize tnx u d m n x = n' at *
          generalize (l || decide (s ≤ n')) = l' at *
          obtain ⟨q0, g0⟩ := hq.one 0 rfl
          obtain ⟨q1, g1⟩ := hq.one 1 rfl
          obtain ⟨q2, g2⟩ := hq.one 2 rfl
          obtain ⟨q3, g3⟩ := hq.one 3 rfl
          have u1 := ok.u1
          have u2 := ok.u2
          have s2 := ok.s2
          cases x
          · simp only [if_false, Bool.false_eq_true] at n3 n4
            go_wp2_with fail
            refine ST.out.mono ?_
            rintro e w2 ⟨rfl, h2, o2⟩
            have hq2 := hq.only o2 (by omega)
            have hb2 : Below w.heap.size w w2 := hbel.trans (o2.below (by omega))
            clear ST q0 q1 q2 q3 g0 g1 g2 g3 hc
            obtain ⟨q0, g0⟩ := hq2.one 0 rfl
            obtain ⟨q1, g1⟩ := hq2.one 1 rfl
            obtain ⟨q2, g2⟩ := hq2.one 2 rfl
            obtain ⟨q3, g3⟩ := hq2.one 3 rfl
            have t1 : decide (sum < n') = false := decide_eq_false (Int.not_lt.2 n3)
            have t2 : decide (n' < 0) = false := decide_eq_false (by omega)
            have t3 : decide (m < n') = false := decide_eq_false (by omega)
            cases t4 : decide (sum < s)
            · go_wp2_with fail
              go_quiet ((first | (go_at_call 18; (exact quiet_as _ rfl (tnum_any b _ (h2.drewN _))))))
              go_wp2
              go_roundw
              case rel => exact ⟨k + 1, _, n', _, by omega, by go_num, rfl, n1, n2, n3, by omega, n4, h2.drewN _, hq2.drewN _, below_drewN hb2 _⟩
              case measure => simp [intOf]; omega
            · have hl' : l' = false := by
                cases l'
                · rfl
                · have := n4 rfl; have := of_decide_eq_true t4; omega
              subst hl'
              go_wp2_with fail
              go_quiet ((first | (go_at_call 18; (exact quiet_as _ rfl (tnum_any b _ (h2.drewN _))))))
              go_wp2
              go_roundw
              case rel => exact ⟨k + 1, _, n', _, by omega, by go_num, rfl, n1, n2, n3, by omega, n4, h2.drewN _, hq2.drewN _, below_drewN hb2 _⟩
              case measure => simp [intOf]; omega
          · simp only [if_true] at n3 n4
            go_wp2_with fail
            refine ST.out.mono ?_
            rintro e w2 ⟨rfl, h2, o2⟩
            have hq2 := hq.only o2 (by omega)
            have hb2 : Below w.heap.size w w2 := hbel.trans (o2.below (by omega))
            clear ST q0 q1 q2 q3 g0 g1 g2 g3 hc
            obtain ⟨q0, g0⟩ := hq2.one 0 rfl
            obtain ⟨q1, g1⟩ := hq2.one 1 rfl
            obtain ⟨q2, g2⟩ := hq2.one 2 rfl
            obtain ⟨q3, g3⟩ := hq2.one 3 rfl
            have t1 : decide (sum + u < n') = false := decide_eq_false (Int.not_lt.2 n3)
            have t2 : decide (n' < 0) = false := decide_eq_false (by omega)
            have t3 : decide (m < n') = false := decide_eq_false (by omega)
            cases t4 : decide (sum + u < s)
            · go_wp2_with fail
              go_quiet ((first | (go_at_call 18; (exact quiet_as _ rfl (tnum_any b _ (h2.drewN _))))))
              go_wp2
              go_roundw
              case rel => exact ⟨k + 1, _, n', _, by omega, by go_num, rfl, n1, n2, n3, by omega, n4, h2.drewN _, hq2.drewN _, below_drewN hb2 _⟩
              case measure => simp [intOf]; omega
            · have hl' : l' = false := by
                cases l'
                · rfl
                · have := n4 rfl; have := of_decide_eq_true t4; omega
              subst hl'
              go_wp2_with fail
              go_quiet ((first | (go_at_call 18; (exact quiet_as _ rfl (tnum_any b _ (h2.drewN _))))))
              go_wp2
              go_roundw
              case rel => exact ⟨k + 1, _, n', _, by omega, by go_num, rfl, n1, n2, n3, by omega, n4, h2.drewN _, hq2.drewN _, below_drewN hb2 _⟩
              case measure => simp [intOf]; omega
        · go_wp2_with (go_at_call 23; refine (lives22 _).mono ?_; rintro e w1 ⟨rfl, hb2⟩)
          go_ret
          exact ⟨rfl, hbel.trans (hb2.mono hbel.size)⟩
end Go.Proofs.Ytmoamadpaepcfaa
