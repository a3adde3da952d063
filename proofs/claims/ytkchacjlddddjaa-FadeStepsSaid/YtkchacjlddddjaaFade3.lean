/- The document's fader; the chapter's example; the laws FadeNew, FadeEnds, FadeBetween, walked. -/
import Derived.Test.YtkchacjlddddjaaFade2
import Derived.BigRegion
namespace Go.Proofs.Ytkchacjlddddjaa
open Go.ChangeShapes Go.WideShapes Go.ChangeAt Go.RowKit
set_option linter.unusedVariables false

theorem fdC_eq {b : Nat} {len out out' lf lf' : Int} {kn : Bool} {w : World} (h : Held b (fdC len out kn lf) w) (e1 : out = out') (e2 : lf = lf') : Held b (fdC len out' kn lf') w := by
  subst e1 e2; exact h

set_option maxHeartbeats 1000000 in
theorem lives26 (w : World) : Calls Try.prog 49 #[] w fun e w' => e = .returned (.bool true) ∧ Below w.heap.size w w' := by
  go_enter Try.func49, Try.ntmps49
  go_wp2_with fail
  refine (fnew_ok 2 _ (by omega) (by omega)).mono ?_
  rintro e w1 ⟨b, hb, rfl, h1, hb1⟩
  go_wp2_with fail
  refine (fstep_any b 10 false _ h1 (by omega) (by omega) (by omega) (by omega) (by omega)).mono ?_
  rintro e w2 ⟨rfl, h2, o2⟩
  have h2 := fdC_eq h2 (show _ = 10 by decide) (show _ = 0 by decide)
  rw [show fdV (fdL 2 false false 0) 0 (clq 10) = 10 by decide]
  have hb2 := Below.beside hb1 o2 hb
  go_wp2_with fail
  refine (fstep_any b 20 true _ h2 (by omega) (by omega) (by omega) (by omega) (by omega)).mono ?_
  rintro e w3 ⟨rfl, h3, o3⟩
  have h3 := fdC_eq h3 (show _ = 15 by decide) (show _ = 1 by decide)
  rw [show fdV (fdL 2 true true 0) 10 (clq 20) = 15 by decide]
  have hb3 := Below.beside hb2 o3 hb
  go_wp2_with fail
  refine (fstep_any b 20 false _ h3 (by omega) (by omega) (by omega) (by omega) (by omega)).mono ?_
  rintro e w4 ⟨rfl, h4, o4⟩
  rw [show fdV (fdL 2 true false 1) 15 (clq 20) = 20 by decide]
  have hb4 := Below.beside hb3 o4 hb
  go_wp2_with fail
  go_ret
  exact ⟨rfl, hb4⟩

set_option maxHeartbeats 1000000 in
theorem law_FadeNew (len v : Int) (ch : Bool) (w : World) :
    Calls Try.prog 12 #[.int .i64 len, .int .i64 v, .bool ch] w fun e w' => e = .returned (.bool true) ∧ Below w.heap.size w w' := by
  by_cases hp : 0 ≤ len ∧ len ≤ 1000
  · obtain ⟨p1, p2⟩ := hp
    go_enter Try.func12, Try.ntmps12
    go_wp2_with fail
    refine (fnew_ok len _ p1 p2).mono ?_
    rintro e w1 ⟨b, hb, rfl, h1, hb1⟩
    go_wp2_with (first | (go_at_call 45; refine (freset_nil _).mono ?_; rintro e w1 ⟨rfl, rfl⟩) | (go_at_call 46; (with_reducible refine (fout_nil _).mono ?_); rintro e w1 ⟨rfl, rfl⟩) | (go_at_call 47; refine (fstep_nil _ _ _).mono ?_; rintro e w1 ⟨rfl, rfl⟩) | (go_at_call 48; (with_reducible refine (fleft_nil _).mono ?_); rintro e w1 ⟨rfl, rfl⟩))
    refine (fout_any b _ h1).mono ?_
    rintro e w2 ⟨rfl, hb2⟩
    have h2 := h1.bel hb2
    have hb2 := hb1.trans (hb2.mono hb1.size)
    go_wp2_with (first | (go_at_call 48; refine (fleft_any b _ h2).mono ?_; rintro e w1 ⟨rfl, rfl⟩) | (go_at_call 49; refine (lives26 _).mono ?_; rintro e w1 ⟨rfl, hb3⟩))
    go_ret
    exact ⟨rfl, hb2.trans (hb3.mono hb2.size)⟩
  · go_enter Try.func12, Try.ntmps12
    go_wp2_with (first | (go_at_call 44; refine (fnew_no len _ hp).mono ?_; rintro e w1 ⟨rfl, rfl⟩) | (go_at_call 45; refine (freset_nil _).mono ?_; rintro e w1 ⟨rfl, rfl⟩) | (go_at_call 46; (with_reducible refine (fout_nil _).mono ?_); rintro e w1 ⟨rfl, rfl⟩) | (go_at_call 47; refine (fstep_nil _ _ _).mono ?_; rintro e w1 ⟨rfl, rfl⟩) | (go_at_call 48; (with_reducible refine (fleft_nil _).mono ?_); rintro e w1 ⟨rfl, rfl⟩) | (go_at_call 49; refine (lives26 _).mono ?_; rintro e w1 ⟨rfl, hb3⟩))
    all_goals first | (exfalso; omega) | skip
    all_goals
      go_ret
      exact ⟨rfl, hb3⟩

/-- A row of a number and a bool of a table, in whatever world that keeps what was. -/
theorem ib_at {w : World} {t : Option Addr} {rows : List (List Value)} (h : Tab [some .i64, none] w t rows) {i : Nat} (hi : i < rows.length) :
    ∃ tb off x y, t = some ⟨tb, off, none⟩ ∧ tb < w.heap.size ∧ ∀ v, Below w.heap.size w v → v.cell? ⟨tb, off + i * 2, none⟩ = some (.int .i64 x) ∧ v.cell? ⟨tb, off + i * 2 + 1, none⟩ = some (.bool y) := by
  obtain ⟨tb, off, r, rfl, htb, hr, hfl, hcell⟩ := h.at hi
  obtain ⟨x, _, rfl, wx, hfl⟩ := hfl
  obtain ⟨y, _, rfl, hfl⟩ := hfl
  exact ⟨tb, off, x, y, rfl, htb, fun v hv => ⟨(bc hv htb).trans (hcell 0 _ rfl), (bc hv htb).trans (hcell 1 _ rfl)⟩⟩

/-- What holds behind k steps. -/
def FeI (len : Int) (k : Nat) (kn : Bool) (out lf low high qt : Int) : Prop := (k = 0 ∧ kn = false ∧ lf = 0) ∨ (1 ≤ k ∧ kn = true ∧ low ≤ out ∧ out ≤ high ∧ (lf = 0 ∨ lf ≤ len - qt))
theorem fe_step {len : Int} {k : Nat} {kn ch : Bool} {out lf low high qt v low' high' qt' : Int} (I : FeI len k kn out lf low high qt) (l0 : 0 ≤ lf) (l1 : lf ≤ len) (hlo : (k = 0 → low' = v) ∧ (1 ≤ k → low' ≤ low ∧ low' ≤ v)) (hhi : (k = 0 → high' = v) ∧ (1 ≤ k → high ≤ high' ∧ v ≤ high')) (hqt : qt' = if ch then 1 else qt + 1) :
    low' ≤ fdV (fdL len kn ch lf) out v ∧ fdV (fdL len kn ch lf) out v ≤ high' ∧ (len ≤ qt' → fdV (fdL len kn ch lf) out v = v) ∧ FeI len (k + 1) true (fdV (fdL len kn ch lf) out v) (fdN (fdL len kn ch lf)) low' high' qt' := by
  rcases I with ⟨rfl, rfl, rfl⟩ | ⟨hk, rfl, a1, a2, a3⟩
  · have e1 : fdL len false ch 0 = 0 := by unfold fdL; cases ch <;> rfl
    rw [e1]
    have e2 : fdV 0 out v = v := by unfold fdV; simp
    rw [e2]
    have := hlo.1 rfl
    have := hhi.1 rfl
    exact ⟨by omega, by omega, fun _ => rfl, .inr ⟨by omega, rfl, by omega, by omega, .inl (by decide)⟩⟩
  · have b1 := hlo.2 hk
    have b2 := hhi.2 hk
    have bt := fdV_between (fdL len true ch lf) out v
    have c1 : low' ≤ fdV (fdL len true ch lf) out v := by omega
    have c2 : fdV (fdL len true ch lf) out v ≤ high' := by omega
    have one : ∀ L : Int, L ≤ 1 → fdV L out v = v := fun L hL => by
      unfold fdV
      split
      · obtain rfl : L = 1 := by omega
        simp
        omega
      · rfl
    have hn : ∀ L : Int, (L ≤ 0 ∧ fdN L = 0) ∨ (0 < L ∧ fdN L = L - 1) := fun L => by unfold fdN; split <;> omega
    cases ch
    · have e1 : fdL len true false lf = lf := rfl
      rw [e1] at c1 c2 ⊢
      simp at hqt
      refine ⟨c1, c2, fun h => one _ (by omega), .inr ⟨by omega, rfl, c1, c2, ?_⟩⟩
      have := hn lf
      omega
    · have e1 : fdL len true true lf = len := rfl
      rw [e1] at c1 c2 ⊢
      simp at hqt
      refine ⟨c1, c2, fun h => one _ (by omega), .inr ⟨by omega, rfl, c1, c2, ?_⟩⟩
      have := hn len
      omega

theorem fdN_bd {L len : Int} (h0 : 0 ≤ L) (h1 : L ≤ len) : 0 ≤ fdN L ∧ fdN L ≤ len := by unfold fdN; split <;> omega

set_option maxHeartbeats 4000000 in
theorem law_FadeEnds (len : Int) (t : Option Addr) (cap : Nat) (rows : List (List Value)) (w : World) (ht : Tab [some .i64, none] w t rows) (hl : rows.length ≤ maxLen) :
    Calls Try.prog 15 #[.int .i64 len, .slice t rows.length cap] w fun e w' => e = .returned (.bool true) ∧ Below w.heap.size w w' := by
  unfold maxLen at hl
  by_cases hp : 0 ≤ len ∧ len ≤ 1000
  · obtain ⟨p1, p2⟩ := hp
    go_enter Try.func15, Try.ntmps15
    go_wp2_with fail
    refine (fnew_ok len _ p1 p2).mono ?_
    rintro e w1 ⟨b, hb, rfl, h1, hb1⟩
    by_cases hbig : 200 < rows.length
    · go_wp2_with (go_at_call 49; refine (lives26 _).mono ?_; rintro e w1 ⟨rfl, hb2⟩)
      go_ret
      exact ⟨rfl, hb1.trans (hb2.mono hb1.size)⟩
    · go_wp2_with fail
      go_loopw [7, 8, 9, 10] (fun s7 s8 s9 i u => ∃ (k : Nat) (low high qt out lf : Int) (kn : Bool), k ≤ rows.length ∧ s7 = .int .i64 low ∧ s8 = .int .i64 high ∧ s9 = .int .i64 qt ∧ i = .int .i64 k ∧ 0 ≤ qt ∧ qt ≤ k ∧ 0 ≤ lf ∧ lf ≤ len ∧ -549755813887 ≤ low ∧ high ≤ 549755813887 ∧ low ≤ high ∧ -549755813887 ≤ out ∧ out ≤ 549755813887 ∧ Hid (FeI len k kn out lf low high qt) ∧ Held b (fdC len out kn lf) u ∧ Below w.heap.size w u) (fun _ _ _ i _ => rows.length - (intOf i).toNat)
      case atStart => exact ⟨0, 0, 0, 0, 0, 0, false, Nat.zero_le _, rfl, rfl, rfl, rfl, by omega, by omega, by omega, by omega, by omega, by omega, by omega, by omega, by omega, Lib.hid (.inl ⟨rfl, rfl, rfl⟩), h1, hb1⟩
      case round =>
        clear h1 hb1
        obtain ⟨k, low, high, qt, out, lf, kn, hk, rfl, rfl, rfl, rfl, q0, q1, l0, l1, b1, b2, b3, o1, o2, HI, hh, hbel⟩ := hrel
        by_cases hlt : k < rows.length
        · obtain ⟨tb, off, x, ch, rfl, htb, hcells⟩ := ib_at ht hlt
          obtain ⟨k0, k1⟩ := hcells wr hbel
          have hcells := Lib.hid hcells
          clear ht
          have ST := Lib.hid (fun u (hu : Held b (fdC len out kn lf) u) => fstep_any b x ch u hu l0 l1 p2 o1 o2)
          have RC := Lib.hid (fun u => r16clip_any x u)
          have vb := clq_bd x
          have FS := Lib.hid (fun low' high' qt' => fe_step (ch := ch) (v := clq x) (low' := low') (high' := high') (qt' := qt') HI.out l0 l1)
          have Lb := fdL_bd kn ch l0 l1
          have nb := fdN_bd Lb.1 Lb.2
          clear Lb
          generalize fdV (fdL len kn ch lf) out (clq x) = n at *
          generalize fdN (fdL len kn ch lf) = lf' at *
          generalize clq x = v at *
          clear HI
          cases ch
          · rcases Nat.eq_zero_or_pos k with hk0 | hk0
            · have F := FS.out v v (qt + 1) ⟨fun h => by omega, fun h => by omega⟩ ⟨fun h => by omega, fun h => by omega⟩ (by simp)
              clear FS
              obtain ⟨F1, F2, F3, F4⟩ := F
              have F4 := Lib.hid F4
              have n1 : -549755813887 ≤ n := by omega
              have n2 : n ≤ 549755813887 := by omega
              have hk1 : ((k : Int) == 0) = true := by rw [beq_iff_eq]; omega
              clear hk0
              by_cases hc : len ≤ qt + 1
              · obtain rfl : v = n := (F3 hc).symm
                clear F3
                go_wp2_with ((go_at_call 27; (with_reducible refine (RC.out _).mono ?_); rintro e w' ⟨rfl, rfl⟩))
                go_region_held3 (fun w' => w'.cell? ⟨tb, off + k * 2, none⟩ = some (.int .i64 x) ∧ w'.cell? ⟨tb, off + k * 2 + 1, none⟩ = some (.bool false))
                  (first | exact ⟨k0, k1⟩ | exact ⟨r0, r1⟩)
                  (first | (go_at_call 47; refine (ST.out _ (by first | assumption | exact hh.drew)).mono ?_; rintro e w1 ⟨rfl, hh1, ob1⟩; have hb1 := Below.beside (w := w) (v := wr.drew) hbel.drew ob1 (by omega); obtain ⟨r0, r1⟩ := hcells.out _ hb1))
                go_wp2
                go_roundw
                case rel => exact ⟨k + 1, v, v, qt + 1, _, _, true, by omega, by go_num, by go_num, by go_num, by go_num, by omega, by push_cast; omega, nb.1, nb.2, by omega, by omega, by omega, n1, n2, F4, hh1, hb1⟩
                case measure => simp [intOf]; omega
              · clear F3
                go_wp2_with ((go_at_call 27; (with_reducible refine (RC.out _).mono ?_); rintro e w' ⟨rfl, rfl⟩))
                go_region_held3 (fun w' => w'.cell? ⟨tb, off + k * 2, none⟩ = some (.int .i64 x) ∧ w'.cell? ⟨tb, off + k * 2 + 1, none⟩ = some (.bool false))
                  (first | exact ⟨k0, k1⟩ | exact ⟨r0, r1⟩)
                  (first | (go_at_call 47; refine (ST.out _ (by first | assumption | exact hh.drew)).mono ?_; rintro e w1 ⟨rfl, hh1, ob1⟩; have hb1 := Below.beside (w := w) (v := wr.drew) hbel.drew ob1 (by omega); obtain ⟨r0, r1⟩ := hcells.out _ hb1))
                go_wp2
                go_roundw
                case rel => exact ⟨k + 1, v, v, qt + 1, _, _, true, by omega, by go_num, by go_num, by go_num, by go_num, by omega, by push_cast; omega, nb.1, nb.2, by omega, by omega, by omega, n1, n2, F4, hh1, hb1⟩
                case measure => simp [intOf]; omega
            · have hk1 : ((k : Int) == 0) = false := by rw [beq_eq_false_iff_ne]; omega
              by_cases c1 : v < low
              · have F := FS.out v high (qt + 1) ⟨fun h => by omega, fun h => by omega⟩ ⟨fun h => by omega, fun h => by omega⟩ (by simp)
                clear FS
                obtain ⟨F1, F2, F3, F4⟩ := F
                have F4 := Lib.hid F4
                have n1 : -549755813887 ≤ n := by omega
                have n2 : n ≤ 549755813887 := by omega
                by_cases hc : len ≤ qt + 1
                · obtain rfl : v = n := (F3 hc).symm
                  clear F3
                  go_wp2_with ((go_at_call 27; (with_reducible refine (RC.out _).mono ?_); rintro e w' ⟨rfl, rfl⟩))
                  go_region_held3 (fun w' => w'.cell? ⟨tb, off + k * 2, none⟩ = some (.int .i64 x) ∧ w'.cell? ⟨tb, off + k * 2 + 1, none⟩ = some (.bool false))
                    (first | exact ⟨k0, k1⟩ | exact ⟨r0, r1⟩)
                    (first | (go_at_call 47; refine (ST.out _ (by first | assumption | exact hh.drew)).mono ?_; rintro e w1 ⟨rfl, hh1, ob1⟩; have hb1 := Below.beside (w := w) (v := wr.drew) hbel.drew ob1 (by omega); obtain ⟨r0, r1⟩ := hcells.out _ hb1))
                  go_wp2
                  go_roundw
                  case rel => exact ⟨k + 1, v, high, qt + 1, _, _, true, by omega, by go_num, by go_num, by go_num, by go_num, by omega, by push_cast; omega, nb.1, nb.2, by omega, by omega, by omega, n1, n2, F4, hh1, hb1⟩
                  case measure => simp [intOf]; omega
                · clear F3
                  go_wp2_with ((go_at_call 27; (with_reducible refine (RC.out _).mono ?_); rintro e w' ⟨rfl, rfl⟩))
                  go_region_held3 (fun w' => w'.cell? ⟨tb, off + k * 2, none⟩ = some (.int .i64 x) ∧ w'.cell? ⟨tb, off + k * 2 + 1, none⟩ = some (.bool false))
                    (first | exact ⟨k0, k1⟩ | exact ⟨r0, r1⟩)
                    (first | (go_at_call 47; refine (ST.out _ (by first | assumption | exact hh.drew)).mono ?_; rintro e w1 ⟨rfl, hh1, ob1⟩; have hb1 := Below.beside (w := w) (v := wr.drew) hbel.drew ob1 (by omega); obtain ⟨r0, r1⟩ := hcells.out _ hb1))
                  go_wp2
                  go_roundw
                  case rel => exact ⟨k + 1, v, high, qt + 1, _, _, true, by omega, by go_num, by go_num, by go_num, by go_num, by omega, by push_cast; omega, nb.1, nb.2, by omega, by omega, by omega, n1, n2, F4, hh1, hb1⟩
                  case measure => simp [intOf]; omega
              · by_cases c2 : high < v
                · have F := FS.out low v (qt + 1) ⟨fun h => by omega, fun h => by omega⟩ ⟨fun h => by omega, fun h => by omega⟩ (by simp)
                  clear FS
                  obtain ⟨F1, F2, F3, F4⟩ := F
                  have F4 := Lib.hid F4
                  have n1 : -549755813887 ≤ n := by omega
                  have n2 : n ≤ 549755813887 := by omega
                  by_cases hc : len ≤ qt + 1
                  · obtain rfl : v = n := (F3 hc).symm
                    clear F3
                    go_wp2_with ((go_at_call 27; (with_reducible refine (RC.out _).mono ?_); rintro e w' ⟨rfl, rfl⟩))
                    go_region_held3 (fun w' => w'.cell? ⟨tb, off + k * 2, none⟩ = some (.int .i64 x) ∧ w'.cell? ⟨tb, off + k * 2 + 1, none⟩ = some (.bool false))
                      (first | exact ⟨k0, k1⟩ | exact ⟨r0, r1⟩)
                      (first | (go_at_call 47; refine (ST.out _ (by first | assumption | exact hh.drew)).mono ?_; rintro e w1 ⟨rfl, hh1, ob1⟩; have hb1 := Below.beside (w := w) (v := wr.drew) hbel.drew ob1 (by omega); obtain ⟨r0, r1⟩ := hcells.out _ hb1))
                    go_wp2
                    go_roundw
                    case rel => exact ⟨k + 1, low, v, qt + 1, _, _, true, by omega, by go_num, by go_num, by go_num, by go_num, by omega, by push_cast; omega, nb.1, nb.2, by omega, by omega, by omega, n1, n2, F4, hh1, hb1⟩
                    case measure => simp [intOf]; omega
                  · clear F3
                    go_wp2_with ((go_at_call 27; (with_reducible refine (RC.out _).mono ?_); rintro e w' ⟨rfl, rfl⟩))
                    go_region_held3 (fun w' => w'.cell? ⟨tb, off + k * 2, none⟩ = some (.int .i64 x) ∧ w'.cell? ⟨tb, off + k * 2 + 1, none⟩ = some (.bool false))
                      (first | exact ⟨k0, k1⟩ | exact ⟨r0, r1⟩)
                      (first | (go_at_call 47; refine (ST.out _ (by first | assumption | exact hh.drew)).mono ?_; rintro e w1 ⟨rfl, hh1, ob1⟩; have hb1 := Below.beside (w := w) (v := wr.drew) hbel.drew ob1 (by omega); obtain ⟨r0, r1⟩ := hcells.out _ hb1))
                    go_wp2
                    go_roundw
                    case rel => exact ⟨k + 1, low, v, qt + 1, _, _, true, by omega, by go_num, by go_num, by go_num, by go_num, by omega, by push_cast; omega, nb.1, nb.2, by omega, by omega, by omega, n1, n2, F4, hh1, hb1⟩
                    case measure => simp [intOf]; omega
                · have F := FS.out low high (qt + 1) ⟨fun h => by omega, fun h => by omega⟩ ⟨fun h => by omega, fun h => by omega⟩ (by simp)
                  clear FS
                  obtain ⟨F1, F2, F3, F4⟩ := F
                  have F4 := Lib.hid F4
                  have n1 : -549755813887 ≤ n := by omega
                  have n2 : n ≤ 549755813887 := by omega
                  by_cases hc : len ≤ qt + 1
                  · obtain rfl : v = n := (F3 hc).symm
                    clear F3
                    go_wp2_with ((go_at_call 27; (with_reducible refine (RC.out _).mono ?_); rintro e w' ⟨rfl, rfl⟩))
                    go_region_held3 (fun w' => w'.cell? ⟨tb, off + k * 2, none⟩ = some (.int .i64 x) ∧ w'.cell? ⟨tb, off + k * 2 + 1, none⟩ = some (.bool false))
                      (first | exact ⟨k0, k1⟩ | exact ⟨r0, r1⟩)
                      (first | (go_at_call 47; refine (ST.out _ (by first | assumption | exact hh.drew)).mono ?_; rintro e w1 ⟨rfl, hh1, ob1⟩; have hb1 := Below.beside (w := w) (v := wr.drew) hbel.drew ob1 (by omega); obtain ⟨r0, r1⟩ := hcells.out _ hb1))
                    go_wp2
                    go_roundw
                    case rel => exact ⟨k + 1, low, high, qt + 1, _, _, true, by omega, by go_num, by go_num, by go_num, by go_num, by omega, by push_cast; omega, nb.1, nb.2, by omega, by omega, by omega, n1, n2, F4, hh1, hb1⟩
                    case measure => simp [intOf]; omega
                  · clear F3
                    go_wp2_with ((go_at_call 27; (with_reducible refine (RC.out _).mono ?_); rintro e w' ⟨rfl, rfl⟩))
                    go_region_held3 (fun w' => w'.cell? ⟨tb, off + k * 2, none⟩ = some (.int .i64 x) ∧ w'.cell? ⟨tb, off + k * 2 + 1, none⟩ = some (.bool false))
                      (first | exact ⟨k0, k1⟩ | exact ⟨r0, r1⟩)
                      (first | (go_at_call 47; refine (ST.out _ (by first | assumption | exact hh.drew)).mono ?_; rintro e w1 ⟨rfl, hh1, ob1⟩; have hb1 := Below.beside (w := w) (v := wr.drew) hbel.drew ob1 (by omega); obtain ⟨r0, r1⟩ := hcells.out _ hb1))
                    go_wp2
                    go_roundw
                    case rel => exact ⟨k + 1, low, high, qt + 1, _, _, true, by omega, by go_num, by go_num, by go_num, by go_num, by omega, by push_cast; omega, nb.1, nb.2, by omega, by omega, by omega, n1, n2, F4, hh1, hb1⟩
                    case measure => simp [intOf]; omega
          · rcases Nat.eq_zero_or_pos k with hk0 | hk0
            · have F := FS.out v v (1) ⟨fun h => by omega, fun h => by omega⟩ ⟨fun h => by omega, fun h => by omega⟩ (by simp)
              clear FS
              obtain ⟨F1, F2, F3, F4⟩ := F
              have F4 := Lib.hid F4
              have n1 : -549755813887 ≤ n := by omega
              have n2 : n ≤ 549755813887 := by omega
              have hk1 : ((k : Int) == 0) = true := by rw [beq_iff_eq]; omega
              clear hk0
              by_cases hc : len ≤ 1
              · obtain rfl : v = n := (F3 hc).symm
                clear F3
                go_wp2_with ((go_at_call 27; (with_reducible refine (RC.out _).mono ?_); rintro e w' ⟨rfl, rfl⟩))
                go_region_held3 (fun w' => w'.cell? ⟨tb, off + k * 2, none⟩ = some (.int .i64 x) ∧ w'.cell? ⟨tb, off + k * 2 + 1, none⟩ = some (.bool true))
                  (first | exact ⟨k0, k1⟩ | exact ⟨r0, r1⟩)
                  (first | (go_at_call 47; refine (ST.out _ (by first | assumption | exact hh.drew)).mono ?_; rintro e w1 ⟨rfl, hh1, ob1⟩; have hb1 := Below.beside (w := w) (v := wr.drew) hbel.drew ob1 (by omega); obtain ⟨r0, r1⟩ := hcells.out _ hb1))
                go_wp2
                go_roundw
                case rel => exact ⟨k + 1, v, v, 1, _, _, true, by omega, by go_num, by go_num, by go_num, by go_num, by omega, by push_cast; omega, nb.1, nb.2, by omega, by omega, by omega, n1, n2, F4, hh1, hb1⟩
                case measure => simp [intOf]; omega
              · clear F3
                go_wp2_with ((go_at_call 27; (with_reducible refine (RC.out _).mono ?_); rintro e w' ⟨rfl, rfl⟩))
                go_region_held3 (fun w' => w'.cell? ⟨tb, off + k * 2, none⟩ = some (.int .i64 x) ∧ w'.cell? ⟨tb, off + k * 2 + 1, none⟩ = some (.bool true))
                  (first | exact ⟨k0, k1⟩ | exact ⟨r0, r1⟩)
                  (first | (go_at_call 47; refine (ST.out _ (by first | assumption | exact hh.drew)).mono ?_; rintro e w1 ⟨rfl, hh1, ob1⟩; have hb1 := Below.beside (w := w) (v := wr.drew) hbel.drew ob1 (by omega); obtain ⟨r0, r1⟩ := hcells.out _ hb1))
                go_wp2
                go_roundw
                case rel => exact ⟨k + 1, v, v, 1, _, _, true, by omega, by go_num, by go_num, by go_num, by go_num, by omega, by push_cast; omega, nb.1, nb.2, by omega, by omega, by omega, n1, n2, F4, hh1, hb1⟩
                case measure => simp [intOf]; omega
            · have hk1 : ((k : Int) == 0) = false := by rw [beq_eq_false_iff_ne]; omega
              by_cases c1 : v < low
              · have F := FS.out v high (1) ⟨fun h => by omega, fun h => by omega⟩ ⟨fun h => by omega, fun h => by omega⟩ (by simp)
                clear FS
                obtain ⟨F1, F2, F3, F4⟩ := F
                have F4 := Lib.hid F4
                have n1 : -549755813887 ≤ n := by omega
                have n2 : n ≤ 549755813887 := by omega
                by_cases hc : len ≤ 1
                · obtain rfl : v = n := (F3 hc).symm
                  clear F3
                  go_wp2_with ((go_at_call 27; (with_reducible refine (RC.out _).mono ?_); rintro e w' ⟨rfl, rfl⟩))
                  go_region_held3 (fun w' => w'.cell? ⟨tb, off + k * 2, none⟩ = some (.int .i64 x) ∧ w'.cell? ⟨tb, off + k * 2 + 1, none⟩ = some (.bool true))
                    (first | exact ⟨k0, k1⟩ | exact ⟨r0, r1⟩)
                    (first | (go_at_call 47; refine (ST.out _ (by first | assumption | exact hh.drew)).mono ?_; rintro e w1 ⟨rfl, hh1, ob1⟩; have hb1 := Below.beside (w := w) (v := wr.drew) hbel.drew ob1 (by omega); obtain ⟨r0, r1⟩ := hcells.out _ hb1))
                  go_wp2
                  go_roundw
                  case rel => exact ⟨k + 1, v, high, 1, _, _, true, by omega, by go_num, by go_num, by go_num, by go_num, by omega, by push_cast; omega, nb.1, nb.2, by omega, by omega, by omega, n1, n2, F4, hh1, hb1⟩
                  case measure => simp [intOf]; omega
                · clear F3
                  go_wp2_with ((go_at_call 27; (with_reducible refine (RC.out _).mono ?_); rintro e w' ⟨rfl, rfl⟩))
                  go_region_held3 (fun w' => w'.cell? ⟨tb, off + k * 2, none⟩ = some (.int .i64 x) ∧ w'.cell? ⟨tb, off + k * 2 + 1, none⟩ = some (.bool true))
                    (first | exact ⟨k0, k1⟩ | exact ⟨r0, r1⟩)
                    (first | (go_at_call 47; refine (ST.out _ (by first | assumption | exact hh.drew)).mono ?_; rintro e w1 ⟨rfl, hh1, ob1⟩; have hb1 := Below.beside (w := w) (v := wr.drew) hbel.drew ob1 (by omega); obtain ⟨r0, r1⟩ := hcells.out _ hb1))
                  go_wp2
                  go_roundw
                  case rel => exact ⟨k + 1, v, high, 1, _, _, true, by omega, by go_num, by go_num, by go_num, by go_num, by omega, by push_cast; omega, nb.1, nb.2, by omega, by omega, by omega, n1, n2, F4, hh1, hb1⟩
                  case measure => simp [intOf]; omega
              · by_cases c2 : high < v
                · have F := FS.out low v (1) ⟨fun h => by omega, fun h => by omega⟩ ⟨fun h => by omega, fun h => by omega⟩ (by simp)
                  clear FS
                  obtain ⟨F1, F2, F3, F4⟩ := F
                  have F4 := Lib.hid F4
                  have n1 : -549755813887 ≤ n := by omega
                  have n2 : n ≤ 549755813887 := by omega
                  by_cases hc : len ≤ 1
                  · obtain rfl : v = n := (F3 hc).symm
                    clear F3
                    go_wp2_with ((go_at_call 27; (with_reducible refine (RC.out _).mono ?_); rintro e w' ⟨rfl, rfl⟩))
                    go_region_held3 (fun w' => w'.cell? ⟨tb, off + k * 2, none⟩ = some (.int .i64 x) ∧ w'.cell? ⟨tb, off + k * 2 + 1, none⟩ = some (.bool true))
                      (first | exact ⟨k0, k1⟩ | exact ⟨r0, r1⟩)
                      (first | (go_at_call 47; refine (ST.out _ (by first | assumption | exact hh.drew)).mono ?_; rintro e w1 ⟨rfl, hh1, ob1⟩; have hb1 := Below.beside (w := w) (v := wr.drew) hbel.drew ob1 (by omega); obtain ⟨r0, r1⟩ := hcells.out _ hb1))
                    go_wp2
                    go_roundw
                    case rel => exact ⟨k + 1, low, v, 1, _, _, true, by omega, by go_num, by go_num, by go_num, by go_num, by omega, by push_cast; omega, nb.1, nb.2, by omega, by omega, by omega, n1, n2, F4, hh1, hb1⟩
                    case measure => simp [intOf]; omega
                  · clear F3
                    go_wp2_with ((go_at_call 27; (with_reducible refine (RC.out _).mono ?_); rintro e w' ⟨rfl, rfl⟩))
                    go_region_held3 (fun w' => w'.cell? ⟨tb, off + k * 2, none⟩ = some (.int .i64 x) ∧ w'.cell? ⟨tb, off + k * 2 + 1, none⟩ = some (.bool true))
                      (first | exact ⟨k0, k1⟩ | exact ⟨r0, r1⟩)
                      (first | (go_at_call 47; refine (ST.out _ (by first | assumption | exact hh.drew)).mono ?_; rintro e w1 ⟨rfl, hh1, ob1⟩; have hb1 := Below.beside (w := w) (v := wr.drew) hbel.drew ob1 (by omega); obtain ⟨r0, r1⟩ := hcells.out _ hb1))
                    go_wp2
                    go_roundw
                    case rel => exact ⟨k + 1, low, v, 1, _, _, true, by omega, by go_num, by go_num, by go_num, by go_num, by omega, by push_cast; omega, nb.1, nb.2, by omega, by omega, by omega, n1, n2, F4, hh1, hb1⟩
                    case measure => simp [intOf]; omega
                · have F := FS.out low high (1) ⟨fun h => by omega, fun h => by omega⟩ ⟨fun h => by omega, fun h => by omega⟩ (by simp)
                  clear FS
                  obtain ⟨F1, F2, F3, F4⟩ := F
                  have F4 := Lib.hid F4
                  have n1 : -549755813887 ≤ n := by omega
                  have n2 : n ≤ 549755813887 := by omega
                  by_cases hc : len ≤ 1
                  · obtain rfl : v = n := (F3 hc).symm
                    clear F3
                    go_wp2_with ((go_at_call 27; (with_reducible refine (RC.out _).mono ?_); rintro e w' ⟨rfl, rfl⟩))
                    go_region_held3 (fun w' => w'.cell? ⟨tb, off + k * 2, none⟩ = some (.int .i64 x) ∧ w'.cell? ⟨tb, off + k * 2 + 1, none⟩ = some (.bool true))
                      (first | exact ⟨k0, k1⟩ | exact ⟨r0, r1⟩)
                      (first | (go_at_call 47; refine (ST.out _ (by first | assumption | exact hh.drew)).mono ?_; rintro e w1 ⟨rfl, hh1, ob1⟩; have hb1 := Below.beside (w := w) (v := wr.drew) hbel.drew ob1 (by omega); obtain ⟨r0, r1⟩ := hcells.out _ hb1))
                    go_wp2
                    go_roundw
                    case rel => exact ⟨k + 1, low, high, 1, _, _, true, by omega, by go_num, by go_num, by go_num, by go_num, by omega, by push_cast; omega, nb.1, nb.2, by omega, by omega, by omega, n1, n2, F4, hh1, hb1⟩
                    case measure => simp [intOf]; omega
                  · clear F3
                    go_wp2_with ((go_at_call 27; (with_reducible refine (RC.out _).mono ?_); rintro e w' ⟨rfl, rfl⟩))
                    go_region_held3 (fun w' => w'.cell? ⟨tb, off + k * 2, none⟩ = some (.int .i64 x) ∧ w'.cell? ⟨tb, off + k * 2 + 1, none⟩ = some (.bool true))
                      (first | exact ⟨k0, k1⟩ | exact ⟨r0, r1⟩)
                      (first | (go_at_call 47; refine (ST.out _ (by first | assumption | exact hh.drew)).mono ?_; rintro e w1 ⟨rfl, hh1, ob1⟩; have hb1 := Below.beside (w := w) (v := wr.drew) hbel.drew ob1 (by omega); obtain ⟨r0, r1⟩ := hcells.out _ hb1))
                    go_wp2
                    go_roundw
                    case rel => exact ⟨k + 1, low, high, 1, _, _, true, by omega, by go_num, by go_num, by go_num, by go_num, by omega, by push_cast; omega, nb.1, nb.2, by omega, by omega, by omega, n1, n2, F4, hh1, hb1⟩
                    case measure => simp [intOf]; omega
        · go_wp2_with (go_at_call 49; refine (lives26 _).mono ?_; rintro e w1 ⟨rfl, hb2⟩)
          go_ret
          exact ⟨rfl, hbel.trans (hb2.mono hbel.size)⟩
  · go_enter Try.func15, Try.ntmps15
    go_wp2_with (first | (go_at_call 44; refine (fnew_no len _ hp).mono ?_; rintro e w1 ⟨rfl, rfl⟩) | (go_at_call 49; refine (lives26 _).mono ?_; rintro e w1 ⟨rfl, hb3⟩))
    go_ret
    exact ⟨rfl, hb3⟩
end Go.Proofs.Ytkchacjlddddjaa
