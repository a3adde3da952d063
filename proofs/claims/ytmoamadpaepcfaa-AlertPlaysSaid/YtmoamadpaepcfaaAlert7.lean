/- The law AlertPlays, walked. -/
import Derived.Test.YtmoamadpaepcfaaAlert4
namespace Go.Proofs.Ytmoamadpaepcfaa
open Go.ChangeShapes Go.WideShapes Go.ChangeAt Go.RowKit
set_option linter.unusedVariables false

/-- A row of two numbers, in whatever world that keeps what was. -/
theorem pair_at {w : World} {t : Option Addr} {rows : List (List Value)} (h : Tab [some .i64, some .i64] w t rows) {i : Nat} (hi : i < rows.length) :
    ∃ tb off x y, t = some ⟨tb, off, none⟩ ∧ tb < w.heap.size ∧ ∀ v, Below w.heap.size w v → v.cell? ⟨tb, off + i * 2, none⟩ = some (.int .i64 x) ∧ v.cell? ⟨tb, off + i * 2 + 1, none⟩ = some (.int .i64 y) := by
  obtain ⟨tb, off, r, rfl, htb, hr, hfl, hcell⟩ := h.at hi
  obtain ⟨x, _, rfl, _, hfl⟩ := hfl
  obtain ⟨y, _, rfl, _, hfl⟩ := hfl
  exact ⟨tb, off, x, y, rfl, htb, fun v hv => ⟨(bc hv htb).trans (hcell 0 _ rfl), (bc hv htb).trans (hcell 1 _ rfl)⟩⟩

set_option maxRecDepth 100000 in
set_option maxHeartbeats 8000000 in
theorem law_AlertPlays (h wn nr : Int) (t : Option Addr) (cap : Nat) (rows : List (List Value)) (w : World) (ht : Tab [some .i64, some .i64] w t rows) (hl : rows.length ≤ maxLen) :
    Calls Try.prog 13 #[.agg #[.int .i64 h, .int .i64 wn, .int .i64 nr], .slice t rows.length cap] w fun e w' => e = .returned (.bool true) ∧ Below w.heap.size w w' := by
  unfold maxLen at hl
  have hq0 := Held.new w [.int .i64 h, .int .i64 wn, .int .i64 nr] 57
  have hb0 : Below w.heap.size w (w.alloc (.cells #[.int .i64 h, .int .i64 wn, .int .i64 nr] 57)) := (Below.refl _ _).alloc (Nat.le_refl _) _
  cases hr : alR h wn nr
  · go_enter Try.func13, Try.ntmps13
    go_wp2_with fail
    refine (anew_no h wn nr _ hr).mono ?_
    rintro e w1 ⟨rfl, hb1⟩
    have hb1 := hb0.trans (hb1.mono hb0.size)
    go_wp2_with (go_at_call 37; refine (lives42 _).mono ?_; rintro e w1 ⟨rfl, hb3⟩)
    go_ret
    exact ⟨rfl, hb1.trans (hb3.mono hb1.size)⟩
  · go_enter Try.func13, Try.ntmps13
    go_wp2_with fail
    refine (anew_ok h wn nr _ hr).mono ?_
    rintro e w1 ⟨b, hb, rfl, k1, hb1⟩
    have hq1 := hq0.bel hb1
    have hbel1 := hb0.trans (hb1.mono hb0.size)
    have hbw : w.heap.size < b := by simp at hb; omega
    clear hq0 hb0 hb1 hb
    by_cases hbig : 200 < rows.length
    · go_wp2_with (go_at_call 37; refine (lives42 _).mono ?_; rintro e w1 ⟨rfl, hb3⟩)
      go_ret
      exact ⟨rfl, hbel1.trans (hb3.mono hbel1.size)⟩
    · go_wp2_with fail
      go_loopw [7, 8, 9, 10, 11] (fun ss ms hs es i v => ∃ (k : Nat) (st ch ov se : Int) (sk : Bool), k ≤ rows.length ∧ i = .int .i64 k ∧ ss = .int .i64 st ∧ ms = .int .i64 ch ∧ hs = .bool sk ∧ es = .int .i64 se ∧ 0 ≤ ch ∧ ch ≤ k ∧ -100000000 ≤ se ∧ se ≤ 100000000 ∧ (sk = true → ov = se) ∧ (sk = false → st = 0) ∧ Held b (alC h wn nr ov sk st ch) v ∧ Held w.heap.size [.int .i64 h, .int .i64 wn, .int .i64 nr] v ∧ Below w.heap.size w v) (fun _ _ _ _ i _ => rows.length - (intOf i).toNat)
      case atStart => exact ⟨0, 0, 0, 0, 0, false, Nat.zero_le _, rfl, rfl, rfl, rfl, rfl, by omega, by omega, by omega, by omega, by simp, by simp, k1, hq1, hbel1⟩
      case round =>
        obtain ⟨k, st, ch, ov, se, sk, hk, rfl, rfl, rfl, rfl, rfl, ch0, ch1, se0, se1, hov, hst, kk, hq, hbel⟩ := hrel
        clear k1 hq1 hbel1
        by_cases hlt : k < rows.length
        · obtain ⟨tb, off, kd, x, rfl, htb, hcells⟩ := pair_at ht hlt
          have hcells := Lib.hid hcells
          clear ht
          obtain ⟨m0, m1⟩ := hcells.out wr hbel
          have CL := Lib.hid (fun v => rclip19_any x v)
          have XB := cl8_bd x
          cases z1 : (kd == 1)
          · cases z2 : (kd == 2)
            · cases sk
              · have h0 := hst rfl
                subst h0
                go_wp2_with fail
                refine (astep_none b x _ kk).mono ?_
                rintro e w2 ⟨rfl, ob2⟩
                have k3 := kk.bel ob2
                have hq3 := hq.bel ob2
                have hb3 := hbel.trans (ob2.mono hbel.size)
                go_wp2_with (first | (go_at_call 43; refine (astate_any b _ k3).mono ?_; rintro e w1 ⟨rfl, rfl⟩) | (go_at_call 44; refine (achimes_any b _ k3).mono ?_; rintro e w1 ⟨rfl, rfl⟩))
                go_roundw
                case rel => exact ⟨k + 1, 0, ch, ov, se, false, by omega, by go_num, rfl, rfl, rfl, rfl, ch0, by omega, se0, se1, by simp, by simp, k3, hq3, hb3⟩
                case measure => simp [intOf]; omega
              · have h0 := hov rfl
                subst h0
                have ST := Lib.hid (astep_ok b x wr kk hr ⟨se0, se1⟩ ch0 (by omega))
                have AP := Lib.hid (fun v => apart_any (cl8 x) ov v XB ⟨se0, se1⟩)
                have RN := Lib.hid (fun v => rnext_ok st (dst (cl8 x) ov) h wn nr v hr)
                generalize nxt st (dst (cl8 x) ov) h wn nr = n at *
                generalize chm st n = c at *
                generalize dst (cl8 x) ov = D at *
                generalize cl8 x = X at *
                cases c
                all_goals
                  go_wp2_with fail
                  refine ST.out.mono ?_
                  rintro e w2 ⟨rfl, k2, o2⟩
                  first
                  | replace k2 := alC_n k2 rfl (show bump false ch = ch from rfl)
                  | replace k2 := alC_n k2 rfl (show bump true ch = ch + 1 from rfl)
                  have hq2 := hq.beside o2 (by omega)
                  have hb2 := Below.beside hbel o2 (by omega)
                  obtain ⟨p0, p1⟩ := hcells.out w2 hb2
                  obtain ⟨q0, f0⟩ := hq2.one 0 rfl
                  obtain ⟨q1, f1⟩ := hq2.one 1 rfl
                  obtain ⟨q2, f2⟩ := hq2.one 2 rfl
                  go_wp2_with fail
                  go_region_held3 (fun w' => w'.cell? ⟨tb, off + k * 2 + 1, none⟩ = some (.int .i64 x) ∧ w'.cell? ⟨w.heap.size, 0, none⟩ = some (.int .i64 h) ∧ w'.cell? ⟨w.heap.size, 1, none⟩ = some (.int .i64 wn) ∧ w'.cell? ⟨w.heap.size, 2, none⟩ = some (.int .i64 nr) ∧ Below w.heap.size w w')
                    (first | exact ⟨p1, q0, q1, q2, hb2⟩ | exact ⟨p1, q0, q1, q2, hb2.drew⟩ | exact ⟨(hcells.out _ hb3).2, hq3.c 0 _ rfl, hq3.c 1 _ rfl, hq3.c 2 _ rfl, hb3⟩)
                    (first
                      | (go_at_call 45; refine (CL.out _).mono ?_; rintro e w' ⟨rfl, rfl⟩)
                      | (go_at_call 46; refine (AP.out _).mono ?_; rintro e w' ⟨rfl, rfl⟩)
                      | (go_at_call 38; refine (RN.out _).mono ?_; rintro e w3 ⟨rfl, ob3⟩; have hq3 := Held.bel (b := w.heap.size) hq2.drew ob3; have k3 := Held.bel (b := b) k2.drew ob3; have hb3 := Below.trans (a := w) (B := w.heap.size) hb2.drew (ob3.mono (Below.size hb2.drew))))
                  go_wp2_with (first | (go_at_call 43; refine (astate_any b _ k3).mono ?_; rintro e w1 ⟨rfl, rfl⟩) | (go_at_call 44; refine (achimes_any b _ k3).mono ?_; rintro e w1 ⟨rfl, rfl⟩))
                  go_roundw
                  case rel => exact ⟨k + 1, n, _, ov, ov, true, by omega, by go_num, rfl, rfl, rfl, rfl, by omega, by omega, se0, se1, by simp, by simp, k3, hq3, hb3⟩
                  case measure => simp [intOf]; omega
            · go_wp2_with fail
              refine (aclear_any b _ kk).mono ?_
              rintro e w2 ⟨rfl, k3, o2⟩
              have hq3 := hq.only o2 (by omega)
              have hb3 : Below w.heap.size w w2 := hbel.trans (o2.below (by omega))
              go_wp2_with (first | (go_at_call 43; refine (astate_any b _ k3).mono ?_; rintro e w1 ⟨rfl, rfl⟩) | (go_at_call 44; refine (achimes_any b _ k3).mono ?_; rintro e w1 ⟨rfl, rfl⟩))
              go_roundw
              case rel => exact ⟨k + 1, 0, ch, 0, se, false, by omega, by go_num, rfl, rfl, rfl, rfl, ch0, by omega, se0, se1, by simp, by simp, k3, hq3, hb3⟩
              case measure => simp [intOf]; omega
          · go_wp2_with fail
            refine (aselect_any b x _ kk).mono ?_
            rintro e w2 ⟨rfl, k3, o2⟩
            have hq3 := hq.beside o2 (by omega)
            have hb3 := Below.beside hbel o2 (by omega)
            obtain ⟨p0, p1⟩ := hcells.out w2 hb3
            go_wp2_with (first | (go_at_call 45; refine (CL.out _).mono ?_; rintro e w1 ⟨rfl, rfl⟩) | (go_at_call 43; refine (astate_any b _ k3).mono ?_; rintro e w1 ⟨rfl, rfl⟩) | (go_at_call 44; refine (achimes_any b _ k3).mono ?_; rintro e w1 ⟨rfl, rfl⟩))
            go_roundw
            case rel => exact ⟨k + 1, 0, ch, cl8 x, cl8 x, true, by omega, by go_num, rfl, rfl, rfl, rfl, ch0, by omega, XB.1, XB.2, by simp, by simp, k3, hq3, hb3⟩
            case measure => simp [intOf]; omega
        · go_wp2_with (go_at_call 37; refine (lives42 _).mono ?_; rintro e w1 ⟨rfl, hb3⟩)
          go_ret
          exact ⟨rfl, hbel.trans (hb3.mono hbel.size)⟩
end Go.Proofs.Ytmoamadpaepcfaa
