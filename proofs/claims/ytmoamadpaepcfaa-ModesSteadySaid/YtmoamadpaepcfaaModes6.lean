/- The law ModesSteady, walked. -/
import Derived.Test.YtmoamadpaepcfaaModes4
namespace Go.Proofs.Ytmoamadpaepcfaa
open Go.ChangeShapes Go.WideShapes Go.ChangeAt Go.RowKit
set_option linter.unusedVariables false

theorem ms_bd (p md n k : Int) (s : Bool) (n0 : 0 ≤ n) (np : n < p) : 0 ≤ msN p md n k s ∧ msN p md n k s < p := by
  unfold msN
  cases h : msW p md n k s
  · simp; omega
  · simp
    unfold msW at h
    simp at h
    omega
/-- Behind i > 0 steps of the same facts: it is in the mode that is asked for, or waits, at least as long. -/
def Stdy (p md n k i : Int) (s : Bool) : Prop := i = 0 ∨ (md = k ∧ n = 0) ∨ (md = 4 ∧ s = true ∧ prb k = true ∧ i ≤ n)
theorem stdy_step (p md n k i : Int) (s : Bool) (n0 : 0 ≤ n) (i0 : 0 ≤ i) (h : Stdy p md n k i s) : Stdy p (msM p md n k s) (msN p md n k s) k (i + 1) s := by
  unfold msM msN
  cases hw : msW p md n k s
  · right; left; simp
  · right; right
    unfold msW at hw
    simp at hw
    obtain ⟨⟨⟨h1, h2⟩, h3⟩, h4⟩ := hw
    simp
    refine ⟨h2, h3, ?_⟩
    rcases h with h | h | h
    · omega
    · obtain ⟨h5, h6⟩ := h
      rw [h1] at h5
      subst h5
      simp [prb] at h3
    · omega
theorem stdy_stay (p k : Int) (c : Int) (s : Bool) : msM p k 0 k s = k ∧ msN p k 0 k s = 0 ∧ msC p k 0 c k s = c := by
  have hw : msW p k 0 k s = false := by
    cases hw : msW p k 0 k s
    · rfl
    · unfold msW at hw
      simp at hw
      obtain ⟨⟨⟨h1, h2⟩, h3⟩, h4⟩ := hw
      subst h1
      simp [prb] at h3
  unfold msM msN msC
  rw [hw]
  simp

theorem anchB {P : Program} {f : FuncId} {args : Array Value} {W v : World} {b : Nat} {φ : Ending → World → Prop} (h : Calls P f args W fun e w' => φ e w' ∧ Beside b W w') (hB : Beside b v W) : Calls P f args W fun e w' => φ e w' ∧ Beside b v w' :=
  h.mono fun _ _ ⟨a, b⟩ => ⟨a, hB.trans b⟩

set_option maxRecDepth 100000 in
set_option maxHeartbeats 4000000 in
theorem law_ModesSteady (p : Int) (t : Option Addr) (cap : Nat) (rows : List (List Value)) (wm a bb s d : Bool) (w : World) (ht : Tab [none, none, none, none, none] w t rows) (hl : rows.length ≤ maxLen) :
    Calls Try.prog 10 #[.int .i64 p, .slice t rows.length cap, .agg #[.bool wm, .bool a, .bool bb, .bool s, .bool d]] w fun e w' => e = .returned (.bool true) ∧ Below w.heap.size w w' := by
  unfold maxLen at hl
  have hbq : Below w.heap.size w (w.alloc (.cells #[.bool wm, .bool a, .bool bb, .bool s, .bool d] 42)) := (Below.refl _ _).alloc (Nat.le_refl _) _
  have hq0 := Held.new w [.bool wm, .bool a, .bool bb, .bool s, .bool d] 42
  by_cases hp : 1 ≤ p ∧ p ≤ 10000
  · obtain ⟨p1, p2⟩ := hp
    have AS := Lib.hid (fun v => asked_any wm a bb s d v)
    have MS := Lib.hid (fun (b : Nat) (md n c : Int) (v : World) (hv : Held b (mdC p md n c) v) (n0 : 0 ≤ n) (np : n < p) (c0 : 0 ≤ c) (c1 : c < 4611686018427387904) => mstep_any b wm a bb s d v hv p2 n0 np c0 c1)
    generalize askd wm a bb s d = q at AS MS
    go_enter Try.func10, Try.ntmps10
    go_wp2_with fail
    refine (mnew_ok p _ p1 p2).mono ?_
    rintro e w1 ⟨b, hb, rfl, h1, hb1⟩
    have hq := hq0.bel hb1
    have hbel := hbq.trans (hb1.mono hbq.size)
    have hbw : w.heap.size < b := by simp at hb; omega
    clear hq0 hb1 hb hbq
    by_cases hbig : 100 < rows.length ∨ 300 < p
    · go_wp2_with (go_at_call 31; refine (lives25 _).mono ?_; rintro e w1 ⟨rfl, hb2⟩)
      all_goals
        go_ret
        exact ⟨rfl, hbel.trans (hb2.mono hbel.size)⟩
    · have g1 : rows.length ≤ 100 := by omega
      have g3 : p ≤ 300 := by omega
      clear hbig
      go_wp2_with fail
      go_loopw [9] (fun i v => ∃ (k : Nat) (md n c : Int), k ≤ rows.length ∧ i = .int .i64 k ∧ 0 ≤ n ∧ n < p ∧ 0 ≤ c ∧ c ≤ k ∧ Held b (mdC p md n c) v ∧ Held w.heap.size [.bool wm, .bool a, .bool bb, .bool s, .bool d] v ∧ Below w.heap.size w v) (fun i _ => rows.length - (intOf i).toNat)
      case atStart => exact ⟨0, 0, 0, 0, Nat.zero_le _, rfl, by omega, by omega, by omega, by omega, h1, hq, hbel⟩
      case round =>
        obtain ⟨k, md, n, c, hk, rfl, n0, np, c0, c1, hh, hq, hbel⟩ := hrel
        clear h1
        by_cases hlt : k < rows.length
        · obtain ⟨tb, off, xm, xa, xb, xs, xd, rfl, htb, hcells⟩ := facts_at ht hlt
          obtain ⟨k0, k1, k2, k3, k4⟩ := hcells wr hbel
          have ST := Lib.hid (mstep_any b xm xa xb xs xd wr hh p2 n0 np c0 (by omega))
          have nb := ms_bd p md n (askd xm xa xb xs xd) xs n0 np
          have cb := msC_bd p md n c (askd xm xa xb xs xd) xs
          clear hcells ht
          go_wp2_with fail
          refine ST.out.mono ?_
          rintro e w3 ⟨rfl, h3, o3⟩
          go_wp2
          go_roundw
          case rel => exact ⟨k + 1, _, _, _, by omega, by go_num, nb.1, nb.2, by omega, by omega, h3, hq.beside o3 (by omega), Below.beside hbel o3 (by omega)⟩
          case measure => simp [intOf]; omega
        · clear ht
          have c2 : c ≤ 100 := by omega
          go_wp2_with fail
          clear c1 hk hlt
          go_loopw [10] (fun i v => ∃ (k : Nat) (md n c : Int), (k : Int) ≤ p ∧ i = .int .i64 k ∧ 0 ≤ n ∧ n < p ∧ 0 ≤ c ∧ c ≤ 100 + k ∧ Hid (Stdy p md n q k s) ∧ Held b (mdC p md n c) v ∧ Held w.heap.size [.bool wm, .bool a, .bool bb, .bool s, .bool d] v ∧ Below w.heap.size w v) (fun i _ => p.toNat - (intOf i).toNat)
          case atStart => exact ⟨0, md, n, c, by omega, rfl, n0, np, c0, by omega, Lib.hid (.inl rfl), hh, hq, hbel⟩
          case round =>
            clear hh hbel n0 np c0 c2 hq
            obtain ⟨k, md, n, c, hk, rfl, n0, np, c0, c1, hsd, hh, hq, hbel⟩ := hrel
            obtain ⟨q0, g0⟩ := hq.one 0 rfl
            obtain ⟨q1, g1⟩ := hq.one 1 rfl
            obtain ⟨q2, g2⟩ := hq.one 2 rfl
            obtain ⟨q3, g3⟩ := hq.one 3 rfl
            obtain ⟨q4, g4⟩ := hq.one 4 rfl
            by_cases hlt : (k : Int) < p
            · have ST := Lib.hid (MS.out b md n c wr hh n0 np c0 (by omega))
              have nb := ms_bd p md n q s n0 np
              have cb := msC_bd p md n c q s
              have sd := Lib.hid (stdy_step p md n q k s n0 (by omega) hsd.out)
              go_wp2_with fail
              refine ST.out.mono ?_
              rintro e w3 ⟨rfl, h3, o3⟩
              go_wp2
              go_roundw
              case rel => exact ⟨k + 1, _, _, _, by omega, by go_num, nb.1, nb.2, by omega, by omega, Lib.hid (by have := sd.out; push_cast; exact this), h3, hq.beside o3 (by omega), Below.beside hbel o3 (by omega)⟩
              case measure => simp [intOf]; omega
            · have hst : md = q ∧ n = 0 := by
                rcases hsd.out with h | h | h
                · omega
                · exact h
                · omega
              obtain ⟨rfl, rfl⟩ := hst
              clear hsd
              have SS := stdy_stay p md c s
              have ST := fun v hv => MS.out b md 0 c v hv (by omega) (by omega) c0 (by omega)
              rw [SS.1, SS.2.1, SS.2.2] at ST
              have ST := Lib.hid ST
              clear MS SS q0 q1 q2 q3 q4 g0 g1 g2 g3 g4
              go_wp2_with (go_at_call 30; refine (mchg_any b _ hh).mono ?_; rintro e w1 ⟨rfl, rfl⟩)
              go_loopw [12] (fun i v => ∃ (k : Nat), k ≤ 5 ∧ i = .int .i64 k ∧ Held b (mdC p md 0 c) v ∧ Held w.heap.size [.bool wm, .bool a, .bool bb, .bool s, .bool d] v ∧ Below w.heap.size w v) (fun i _ => 5 - (intOf i).toNat)
              case atStart => exact ⟨0, by omega, rfl, hh, hq, hbel⟩
              case round =>
                clear hh hbel hq
                obtain ⟨k, hk, rfl, hh, hq, hbel⟩ := hrel
                by_cases hlt : k < 5
                · have hb0 : Beside b wr wr := .of_only (Only.refl _ _)
                  obtain ⟨q0, g0⟩ := hq.one 0 rfl
                  obtain ⟨q1, g1⟩ := hq.one 1 rfl
                  obtain ⟨q2, g2⟩ := hq.one 2 rfl
                  obtain ⟨q3, g3⟩ := hq.one 3 rfl
                  obtain ⟨q4, g4⟩ := hq.one 4 rfl
                  go_wp2_with fail
                  go_region_held3 (fun w' => w'.cell? ⟨w.heap.size, 0, none⟩ = some (.bool wm) ∧ w'.cell? ⟨w.heap.size, 1, none⟩ = some (.bool a) ∧ w'.cell? ⟨w.heap.size, 2, none⟩ = some (.bool bb) ∧ w'.cell? ⟨w.heap.size, 3, none⟩ = some (.bool s) ∧ w'.cell? ⟨w.heap.size, 4, none⟩ = some (.bool d) ∧ Held b (mdC p md 0 c) w' ∧ Held w.heap.size [.bool wm, .bool a, .bool bb, .bool s, .bool d] w' ∧ Below w.heap.size w w')
                    (first | exact ⟨q0, q1, q2, q3, q4, hh, hq, hbel⟩ | exact ⟨q0, q1, q2, q3, q4, hh.drew, hq.drew, hbel.drew⟩ | exact ⟨hz1.c 0 _ rfl, hz1.c 1 _ rfl, hz1.c 2 _ rfl, hz1.c 3 _ rfl, hz1.c 4 _ rfl, hh1, hz1, hbel1⟩)
                    (first
                      | (go_at_call 28; refine (ST.out _ (by first | assumption | exact hh.drew)).mono ?_; rintro e w1 ⟨rfl, hh1, ob1⟩; have hz1 := Held.beside (b := w.heap.size) (by first | assumption | exact hq.drew) ob1 (by omega); have hbel1 := Below.beside (w := w) (by first | assumption | exact hbel.drew) ob1 (by omega))
                      | (go_at_call 33; refine (AS.out _).mono ?_; rintro e w1 ⟨rfl, ob1⟩; have hz1 := Held.bel (b := w.heap.size) (by first | assumption | exact hq.drew) ob1; have hh1 := Held.bel (b := b) (by first | assumption | exact hh.drew) ob1; have hbel1 := Below.trans (a := w) (B := w.heap.size) (by first | assumption | exact hbel.drew) (ob1.mono (Below.size (by first | assumption | exact hbel.drew)))))
                  go_wp2
                  go_roundw
                  case rel => exact ⟨k + 1, by omega, by go_num, hh1, hz1, hbel1⟩
                  case measure => simp [intOf]; omega
                · go_wp2_with (go_at_call 30; refine (mchg_any b _ hh).mono ?_; rintro e w1 ⟨rfl, rfl⟩)
                  refine (lives25 _).mono ?_
                  rintro e w4 ⟨rfl, hb4⟩
                  go_wp2
                  go_ret
                  exact ⟨rfl, hbel.trans (hb4.mono hbel.size)⟩
  · go_enter Try.func10, Try.ntmps10
    go_wp2_with (first | (go_at_call 26; refine (mnew_no p _ hp).mono ?_; rintro e w1 ⟨rfl, rfl⟩) | (go_at_call 31; refine (lives25 _).mono ?_; rintro e w1 ⟨rfl, hb3⟩))
    go_ret
    exact ⟨rfl, hbq.trans (hb3.mono hbq.size)⟩
end Go.Proofs.Ytmoamadpaepcfaa
