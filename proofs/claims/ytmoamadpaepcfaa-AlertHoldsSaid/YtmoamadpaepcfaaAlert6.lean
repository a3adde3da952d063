/- The law AlertHolds, walked. -/
import Derived.Test.YtmoamadpaepcfaaAlert4
namespace Go.Proofs.Ytmoamadpaepcfaa
open Go.ChangeShapes Go.WideShapes Go.ChangeAt Go.RowKit
set_option linter.unusedVariables false

set_option maxRecDepth 100000 in
set_option maxHeartbeats 4000000 in
theorem law_AlertHolds (h wn nr sel : Int) (a : Option Addr) (cap : Nat) (l : List Int) (w : World) (hrow : RowIs .i64 w a l) (hl : l.length ≤ maxLen) :
    Calls Try.prog 14 #[.agg #[.int .i64 h, .int .i64 wn, .int .i64 nr], .int .i64 sel, .slice a l.length cap] w fun e w' => e = .returned (.bool true) ∧ Below w.heap.size w w' := by
  unfold maxLen at hl
  have hq0 := Held.new w [.int .i64 h, .int .i64 wn, .int .i64 nr] 57
  have hb0 : Below w.heap.size w (w.alloc (.cells #[.int .i64 h, .int .i64 wn, .int .i64 nr] 57)) := (Below.refl _ _).alloc (Nat.le_refl _) _
  cases hr : alR h wn nr
  · go_enter Try.func14, Try.ntmps14
    go_wp2_with fail
    refine (anew_no h wn nr _ hr).mono ?_
    rintro e w1 ⟨rfl, hb1⟩
    have hb1 := hb0.trans (hb1.mono hb0.size)
    go_wp2_with (go_at_call 37; refine (lives42 _).mono ?_; rintro e w1 ⟨rfl, hb3⟩)
    go_ret
    exact ⟨rfl, hb1.trans (hb3.mono hb1.size)⟩
  · obtain ⟨r1, r2, r3, r4⟩ := alR_ok hr
    go_enter Try.func14, Try.ntmps14
    go_wp2_with fail
    refine (anew_ok h wn nr _ hr).mono ?_
    rintro e w1 ⟨b, hb, rfl, k1, hb1⟩
    have hq1 := hq0.bel hb1
    have hbel1 := hb0.trans (hb1.mono hb0.size)
    have hbw : w.heap.size < b := by simp at hb; omega
    clear hq0 hb0 hb1 hb
    by_cases hbig : 200 < l.length ∨ sel < -1000000 ∨ 1000000 < sel
    · go_wp2_with (go_at_call 37; refine (lives42 _).mono ?_; rintro e w1 ⟨rfl, hb3⟩)
      all_goals
        go_ret
        exact ⟨rfl, hbel1.trans (hb3.mono hbel1.size)⟩
    · have g1 : l.length ≤ 200 := by omega
      have g2 : -1000000 ≤ sel := by omega
      have g3 : sel ≤ 1000000 := by omega
      have gs : cl8 sel = sel := by unfold cl8; omega
      clear hbig
      go_wp2_with fail
      have SE := aselect_any b sel _ k1
      rw [gs] at SE
      refine SE.mono ?_
      rintro e w2 ⟨rfl, k2, o2⟩
      have hq2 := hq1.beside o2 (by omega)
      have hbel2 := Below.beside hbel1 o2 (by omega)
      clear SE k1 hq1 hbel1 o2
      go_wp2_with fail
      go_loopw [9, 10] (fun cs i v => ∃ (k : Nat) (st ch : Int) (cm : Bool), k ≤ l.length ∧ i = .int .i64 k ∧ cs = .bool cm ∧ 0 ≤ ch ∧ ch ≤ k ∧ (cm = true → st = 2 ∨ st = 4) ∧ Held b (alC h wn nr sel true st ch) v ∧ Held w.heap.size [.int .i64 h, .int .i64 wn, .int .i64 nr] v ∧ Below w.heap.size w v) (fun _ i _ => l.length - (intOf i).toNat)
      case atStart => exact ⟨0, 0, 0, false, Nat.zero_le _, rfl, rfl, by omega, by omega, by simp, k2, hq2, hbel2⟩
      case round =>
        obtain ⟨k, st, ch, cm, hk, rfl, rfl, ch0, ch1, hcm0, kk, hq, hbel⟩ := hrel
        clear k2 hq2 hbel2
        by_cases hlt : k < l.length
        · obtain ⟨rb, off, rfl, hrb, hcell⟩ := hrow.at hlt
          have hc1 : wr.cell? ⟨rb, off + k, none⟩ = some (.int .i64 (l.getD k 0)) := (bc hbel hrb).trans hcell
          generalize l.getD k 0 = x at hcell hc1
          have ST := astep_ok b x wr kk hr ⟨by omega, by omega⟩ ch0 (by omega)
          have CL := Lib.hid (fun v => rclip19_any x v)
          have AP := Lib.hid (fun v => apart_any (cl8 x) sel v (cl8_bd x) ⟨by omega, by omega⟩)
          have DB := dst_bd (cl8 x) sel (cl8_bd x) ⟨by omega, by omega⟩
          generalize dst (cl8 x) sel = D at *
          generalize cl8 x = X at *
          clear hrow
          have sc : st = 2 ∨ st = 3 ∨ st = 4 ∨ (st ≠ 2 ∧ st ≠ 3 ∧ st ≠ 4) := by omega
          have dc : D ≤ h ∨ (h < D ∧ D ≤ wn) ∨ (wn < D ∧ D ≤ nr) ∨ nr < D := by omega
          rcases sc with rfl | rfl | rfl | ⟨x2, x3, x4⟩
          · rcases dc with dc | ⟨dc, dc'⟩ | ⟨dc, dc'⟩ | dc
            · have hn : nxt 2 D h wn nr = 3 := by unfold nxt; omega
              rw [hn, show chm 2 3 = false from by decide] at ST
              have ST := Lib.hid ST
              clear hn
              go_wp2_with (go_at_call 43; refine (astate_any b _ kk).mono ?_; rintro e w1 ⟨rfl, rfl⟩)
              refine ST.out.mono ?_
              rintro e w2 ⟨rfl, k2, o2⟩
              have hq2 := hq.beside o2 (by omega)
              have hb2 := Below.beside hbel o2 (by omega)
              have hc2 : w2.cell? ⟨rb, off + k, none⟩ = some (.int .i64 x) := (bc hb2 hrb).trans hcell
              obtain ⟨q0, f0⟩ := hq2.one 0 rfl
              obtain ⟨q1, f1⟩ := hq2.one 1 rfl
              obtain ⟨q2, f2⟩ := hq2.one 2 rfl
              go_wp2_with (first | (go_at_call 45; refine (CL.out _).mono ?_; rintro e w1 ⟨rfl, rfl⟩) | (go_at_call 46; refine (AP.out _).mono ?_; rintro e w1 ⟨rfl, rfl⟩))
              go_roundw
              case rel => exact ⟨k + 1, 3, _, false, by omega, by go_num, rfl, by unfold bump; simp; omega, by unfold bump; simp; omega, by simp, k2, hq2, hb2⟩
              case measure => simp [intOf]; omega
            · have hn : nxt 2 D h wn nr = 2 := by unfold nxt; omega
              rw [hn, show chm 2 2 = false from by decide] at ST
              have ST := Lib.hid ST
              clear hn
              go_wp2_with (go_at_call 43; refine (astate_any b _ kk).mono ?_; rintro e w1 ⟨rfl, rfl⟩)
              refine ST.out.mono ?_
              rintro e w2 ⟨rfl, k2, o2⟩
              have hq2 := hq.beside o2 (by omega)
              have hb2 := Below.beside hbel o2 (by omega)
              have hc2 : w2.cell? ⟨rb, off + k, none⟩ = some (.int .i64 x) := (bc hb2 hrb).trans hcell
              obtain ⟨q0, f0⟩ := hq2.one 0 rfl
              obtain ⟨q1, f1⟩ := hq2.one 1 rfl
              obtain ⟨q2, f2⟩ := hq2.one 2 rfl
              go_wp2_with (first | (go_at_call 45; refine (CL.out _).mono ?_; rintro e w1 ⟨rfl, rfl⟩) | (go_at_call 46; refine (AP.out _).mono ?_; rintro e w1 ⟨rfl, rfl⟩))
              go_roundw
              case rel => exact ⟨k + 1, 2, _, false, by omega, by go_num, rfl, by unfold bump; simp; omega, by unfold bump; simp; omega, by simp, k2, hq2, hb2⟩
              case measure => simp [intOf]; omega
            · have hn : nxt 2 D h wn nr = 2 := by unfold nxt; omega
              rw [hn, show chm 2 2 = false from by decide] at ST
              have ST := Lib.hid ST
              clear hn
              go_wp2_with (go_at_call 43; refine (astate_any b _ kk).mono ?_; rintro e w1 ⟨rfl, rfl⟩)
              refine ST.out.mono ?_
              rintro e w2 ⟨rfl, k2, o2⟩
              have hq2 := hq.beside o2 (by omega)
              have hb2 := Below.beside hbel o2 (by omega)
              have hc2 : w2.cell? ⟨rb, off + k, none⟩ = some (.int .i64 x) := (bc hb2 hrb).trans hcell
              obtain ⟨q0, f0⟩ := hq2.one 0 rfl
              obtain ⟨q1, f1⟩ := hq2.one 1 rfl
              obtain ⟨q2, f2⟩ := hq2.one 2 rfl
              go_wp2_with (first | (go_at_call 45; refine (CL.out _).mono ?_; rintro e w1 ⟨rfl, rfl⟩) | (go_at_call 46; refine (AP.out _).mono ?_; rintro e w1 ⟨rfl, rfl⟩))
              go_roundw
              case rel => exact ⟨k + 1, 2, _, false, by omega, by go_num, rfl, by unfold bump; simp; omega, by unfold bump; simp; omega, by simp, k2, hq2, hb2⟩
              case measure => simp [intOf]; omega
            · have hn : nxt 2 D h wn nr = 1 := by unfold nxt; omega
              rw [hn, show chm 2 1 = false from by decide] at ST
              have ST := Lib.hid ST
              clear hn
              go_wp2_with (go_at_call 43; refine (astate_any b _ kk).mono ?_; rintro e w1 ⟨rfl, rfl⟩)
              refine ST.out.mono ?_
              rintro e w2 ⟨rfl, k2, o2⟩
              have hq2 := hq.beside o2 (by omega)
              have hb2 := Below.beside hbel o2 (by omega)
              have hc2 : w2.cell? ⟨rb, off + k, none⟩ = some (.int .i64 x) := (bc hb2 hrb).trans hcell
              obtain ⟨q0, f0⟩ := hq2.one 0 rfl
              obtain ⟨q1, f1⟩ := hq2.one 1 rfl
              obtain ⟨q2, f2⟩ := hq2.one 2 rfl
              go_wp2_with (first | (go_at_call 45; refine (CL.out _).mono ?_; rintro e w1 ⟨rfl, rfl⟩) | (go_at_call 46; refine (AP.out _).mono ?_; rintro e w1 ⟨rfl, rfl⟩))
              go_roundw
              case rel => exact ⟨k + 1, 1, _, false, by omega, by go_num, rfl, by unfold bump; simp; omega, by unfold bump; simp; omega, by simp, k2, hq2, hb2⟩
              case measure => simp [intOf]; omega
          · rcases dc with dc | ⟨dc, dc'⟩ | ⟨dc, dc'⟩ | dc
            · have hn : nxt 3 D h wn nr = 3 := by unfold nxt; omega
              rw [hn, show chm 3 3 = false from by decide] at ST
              have ST := Lib.hid ST
              clear hn
              go_wp2_with (go_at_call 43; refine (astate_any b _ kk).mono ?_; rintro e w1 ⟨rfl, rfl⟩)
              refine ST.out.mono ?_
              rintro e w2 ⟨rfl, k2, o2⟩
              have hq2 := hq.beside o2 (by omega)
              have hb2 := Below.beside hbel o2 (by omega)
              have hc2 : w2.cell? ⟨rb, off + k, none⟩ = some (.int .i64 x) := (bc hb2 hrb).trans hcell
              obtain ⟨q0, f0⟩ := hq2.one 0 rfl
              obtain ⟨q1, f1⟩ := hq2.one 1 rfl
              obtain ⟨q2, f2⟩ := hq2.one 2 rfl
              go_wp2_with (first | (go_at_call 45; refine (CL.out _).mono ?_; rintro e w1 ⟨rfl, rfl⟩) | (go_at_call 46; refine (AP.out _).mono ?_; rintro e w1 ⟨rfl, rfl⟩))
              go_roundw
              case rel => exact ⟨k + 1, 3, _, false, by omega, by go_num, rfl, by unfold bump; simp; omega, by unfold bump; simp; omega, by simp, k2, hq2, hb2⟩
              case measure => simp [intOf]; omega
            · have hn : nxt 3 D h wn nr = 3 := by unfold nxt; omega
              rw [hn, show chm 3 3 = false from by decide] at ST
              have ST := Lib.hid ST
              clear hn
              go_wp2_with (go_at_call 43; refine (astate_any b _ kk).mono ?_; rintro e w1 ⟨rfl, rfl⟩)
              refine ST.out.mono ?_
              rintro e w2 ⟨rfl, k2, o2⟩
              have hq2 := hq.beside o2 (by omega)
              have hb2 := Below.beside hbel o2 (by omega)
              have hc2 : w2.cell? ⟨rb, off + k, none⟩ = some (.int .i64 x) := (bc hb2 hrb).trans hcell
              obtain ⟨q0, f0⟩ := hq2.one 0 rfl
              obtain ⟨q1, f1⟩ := hq2.one 1 rfl
              obtain ⟨q2, f2⟩ := hq2.one 2 rfl
              go_wp2_with (first | (go_at_call 45; refine (CL.out _).mono ?_; rintro e w1 ⟨rfl, rfl⟩) | (go_at_call 46; refine (AP.out _).mono ?_; rintro e w1 ⟨rfl, rfl⟩))
              go_roundw
              case rel => exact ⟨k + 1, 3, _, false, by omega, by go_num, rfl, by unfold bump; simp; omega, by unfold bump; simp; omega, by simp, k2, hq2, hb2⟩
              case measure => simp [intOf]; omega
            · have hn : nxt 3 D h wn nr = 4 := by unfold nxt; omega
              rw [hn, show chm 3 4 = true from by decide] at ST
              have ST := Lib.hid ST
              have hcm : cm = false := by
                cases cm
                · rfl
                · have := hcm0 rfl; omega
              subst hcm
              clear hn
              go_wp2_with (go_at_call 43; refine (astate_any b _ kk).mono ?_; rintro e w1 ⟨rfl, rfl⟩)
              refine ST.out.mono ?_
              rintro e w2 ⟨rfl, k2, o2⟩
              have hq2 := hq.beside o2 (by omega)
              have hb2 := Below.beside hbel o2 (by omega)
              have hc2 : w2.cell? ⟨rb, off + k, none⟩ = some (.int .i64 x) := (bc hb2 hrb).trans hcell
              obtain ⟨q0, f0⟩ := hq2.one 0 rfl
              obtain ⟨q1, f1⟩ := hq2.one 1 rfl
              obtain ⟨q2, f2⟩ := hq2.one 2 rfl
              go_wp2_with (first | (go_at_call 45; refine (CL.out _).mono ?_; rintro e w1 ⟨rfl, rfl⟩) | (go_at_call 46; refine (AP.out _).mono ?_; rintro e w1 ⟨rfl, rfl⟩))
              go_roundw
              case rel => exact ⟨k + 1, 4, _, true, by omega, by go_num, rfl, by unfold bump; simp; omega, by unfold bump; simp; omega, by intro; omega, k2, hq2, hb2⟩
              case measure => simp [intOf]; omega
            · have hn : nxt 3 D h wn nr = 1 := by unfold nxt; omega
              rw [hn, show chm 3 1 = false from by decide] at ST
              have ST := Lib.hid ST
              clear hn
              go_wp2_with (go_at_call 43; refine (astate_any b _ kk).mono ?_; rintro e w1 ⟨rfl, rfl⟩)
              refine ST.out.mono ?_
              rintro e w2 ⟨rfl, k2, o2⟩
              have hq2 := hq.beside o2 (by omega)
              have hb2 := Below.beside hbel o2 (by omega)
              have hc2 : w2.cell? ⟨rb, off + k, none⟩ = some (.int .i64 x) := (bc hb2 hrb).trans hcell
              obtain ⟨q0, f0⟩ := hq2.one 0 rfl
              obtain ⟨q1, f1⟩ := hq2.one 1 rfl
              obtain ⟨q2, f2⟩ := hq2.one 2 rfl
              go_wp2_with (first | (go_at_call 45; refine (CL.out _).mono ?_; rintro e w1 ⟨rfl, rfl⟩) | (go_at_call 46; refine (AP.out _).mono ?_; rintro e w1 ⟨rfl, rfl⟩))
              go_roundw
              case rel => exact ⟨k + 1, 1, _, false, by omega, by go_num, rfl, by unfold bump; simp; omega, by unfold bump; simp; omega, by simp, k2, hq2, hb2⟩
              case measure => simp [intOf]; omega
          · rcases dc with dc | ⟨dc, dc'⟩ | ⟨dc, dc'⟩ | dc
            · have hn : nxt 4 D h wn nr = 3 := by unfold nxt; omega
              rw [hn, show chm 4 3 = false from by decide] at ST
              have ST := Lib.hid ST
              clear hn
              go_wp2_with (go_at_call 43; refine (astate_any b _ kk).mono ?_; rintro e w1 ⟨rfl, rfl⟩)
              refine ST.out.mono ?_
              rintro e w2 ⟨rfl, k2, o2⟩
              have hq2 := hq.beside o2 (by omega)
              have hb2 := Below.beside hbel o2 (by omega)
              have hc2 : w2.cell? ⟨rb, off + k, none⟩ = some (.int .i64 x) := (bc hb2 hrb).trans hcell
              obtain ⟨q0, f0⟩ := hq2.one 0 rfl
              obtain ⟨q1, f1⟩ := hq2.one 1 rfl
              obtain ⟨q2, f2⟩ := hq2.one 2 rfl
              go_wp2_with (first | (go_at_call 45; refine (CL.out _).mono ?_; rintro e w1 ⟨rfl, rfl⟩) | (go_at_call 46; refine (AP.out _).mono ?_; rintro e w1 ⟨rfl, rfl⟩))
              go_roundw
              case rel => exact ⟨k + 1, 3, _, false, by omega, by go_num, rfl, by unfold bump; simp; omega, by unfold bump; simp; omega, by simp, k2, hq2, hb2⟩
              case measure => simp [intOf]; omega
            · have hn : nxt 4 D h wn nr = 4 := by unfold nxt; omega
              rw [hn, show chm 4 4 = false from by decide] at ST
              have ST := Lib.hid ST
              clear hn
              go_wp2_with (go_at_call 43; refine (astate_any b _ kk).mono ?_; rintro e w1 ⟨rfl, rfl⟩)
              refine ST.out.mono ?_
              rintro e w2 ⟨rfl, k2, o2⟩
              have hq2 := hq.beside o2 (by omega)
              have hb2 := Below.beside hbel o2 (by omega)
              have hc2 : w2.cell? ⟨rb, off + k, none⟩ = some (.int .i64 x) := (bc hb2 hrb).trans hcell
              obtain ⟨q0, f0⟩ := hq2.one 0 rfl
              obtain ⟨q1, f1⟩ := hq2.one 1 rfl
              obtain ⟨q2, f2⟩ := hq2.one 2 rfl
              go_wp2_with (first | (go_at_call 45; refine (CL.out _).mono ?_; rintro e w1 ⟨rfl, rfl⟩) | (go_at_call 46; refine (AP.out _).mono ?_; rintro e w1 ⟨rfl, rfl⟩))
              go_roundw
              case rel => exact ⟨k + 1, 4, _, false, by omega, by go_num, rfl, by unfold bump; simp; omega, by unfold bump; simp; omega, by simp, k2, hq2, hb2⟩
              case measure => simp [intOf]; omega
            · have hn : nxt 4 D h wn nr = 4 := by unfold nxt; omega
              rw [hn, show chm 4 4 = false from by decide] at ST
              have ST := Lib.hid ST
              clear hn
              go_wp2_with (go_at_call 43; refine (astate_any b _ kk).mono ?_; rintro e w1 ⟨rfl, rfl⟩)
              refine ST.out.mono ?_
              rintro e w2 ⟨rfl, k2, o2⟩
              have hq2 := hq.beside o2 (by omega)
              have hb2 := Below.beside hbel o2 (by omega)
              have hc2 : w2.cell? ⟨rb, off + k, none⟩ = some (.int .i64 x) := (bc hb2 hrb).trans hcell
              obtain ⟨q0, f0⟩ := hq2.one 0 rfl
              obtain ⟨q1, f1⟩ := hq2.one 1 rfl
              obtain ⟨q2, f2⟩ := hq2.one 2 rfl
              go_wp2_with (first | (go_at_call 45; refine (CL.out _).mono ?_; rintro e w1 ⟨rfl, rfl⟩) | (go_at_call 46; refine (AP.out _).mono ?_; rintro e w1 ⟨rfl, rfl⟩))
              go_roundw
              case rel => exact ⟨k + 1, 4, _, false, by omega, by go_num, rfl, by unfold bump; simp; omega, by unfold bump; simp; omega, by simp, k2, hq2, hb2⟩
              case measure => simp [intOf]; omega
            · have hn : nxt 4 D h wn nr = 1 := by unfold nxt; omega
              rw [hn, show chm 4 1 = false from by decide] at ST
              have ST := Lib.hid ST
              clear hn
              go_wp2_with (go_at_call 43; refine (astate_any b _ kk).mono ?_; rintro e w1 ⟨rfl, rfl⟩)
              refine ST.out.mono ?_
              rintro e w2 ⟨rfl, k2, o2⟩
              have hq2 := hq.beside o2 (by omega)
              have hb2 := Below.beside hbel o2 (by omega)
              have hc2 : w2.cell? ⟨rb, off + k, none⟩ = some (.int .i64 x) := (bc hb2 hrb).trans hcell
              obtain ⟨q0, f0⟩ := hq2.one 0 rfl
              obtain ⟨q1, f1⟩ := hq2.one 1 rfl
              obtain ⟨q2, f2⟩ := hq2.one 2 rfl
              go_wp2_with (first | (go_at_call 45; refine (CL.out _).mono ?_; rintro e w1 ⟨rfl, rfl⟩) | (go_at_call 46; refine (AP.out _).mono ?_; rintro e w1 ⟨rfl, rfl⟩))
              go_roundw
              case rel => exact ⟨k + 1, 1, _, false, by omega, by go_num, rfl, by unfold bump; simp; omega, by unfold bump; simp; omega, by simp, k2, hq2, hb2⟩
              case measure => simp [intOf]; omega
          · have z2 : (st == 2) = false := beq_eq_false_iff_ne.2 x2
            have z3 : (st == 3) = false := beq_eq_false_iff_ne.2 x3
            have z4 : (st == 4) = false := beq_eq_false_iff_ne.2 x4
            have y2 : (st != 2) = true := by simp [bne, z2]
            have y3 : (st != 3) = true := by simp [bne, z3]
            have y4 : (st != 4) = true := by simp [bne, z4]
            rcases dc with dc | ⟨dc, dc'⟩ | ⟨dc, dc'⟩ | dc
            · have hn : nxt st D h wn nr = 3 := by unfold nxt; omega
              rw [hn, show chm st 3 = false from by unfold chm; rw [y2, z3]; rfl] at ST
              have ST := Lib.hid ST
              clear hn
              go_wp2_with (go_at_call 43; refine (astate_any b _ kk).mono ?_; rintro e w1 ⟨rfl, rfl⟩)
              refine ST.out.mono ?_
              rintro e w2 ⟨rfl, k2, o2⟩
              have hq2 := hq.beside o2 (by omega)
              have hb2 := Below.beside hbel o2 (by omega)
              have hc2 : w2.cell? ⟨rb, off + k, none⟩ = some (.int .i64 x) := (bc hb2 hrb).trans hcell
              obtain ⟨q0, f0⟩ := hq2.one 0 rfl
              obtain ⟨q1, f1⟩ := hq2.one 1 rfl
              obtain ⟨q2, f2⟩ := hq2.one 2 rfl
              go_wp2_with (first | (go_at_call 45; refine (CL.out _).mono ?_; rintro e w1 ⟨rfl, rfl⟩) | (go_at_call 46; refine (AP.out _).mono ?_; rintro e w1 ⟨rfl, rfl⟩))
              go_roundw
              case rel => exact ⟨k + 1, 3, _, false, by omega, by go_num, rfl, by unfold bump; simp; omega, by unfold bump; simp; omega, by simp, k2, hq2, hb2⟩
              case measure => simp [intOf]; omega
            · have hn : nxt st D h wn nr = 2 := by unfold nxt; omega
              rw [hn, show chm st 2 = true from by unfold chm; rw [y2, z3]; rfl] at ST
              have ST := Lib.hid ST
              have hcm : cm = false := by
                cases cm
                · rfl
                · have := hcm0 rfl; omega
              subst hcm
              clear hn
              go_wp2_with (go_at_call 43; refine (astate_any b _ kk).mono ?_; rintro e w1 ⟨rfl, rfl⟩)
              refine ST.out.mono ?_
              rintro e w2 ⟨rfl, k2, o2⟩
              have hq2 := hq.beside o2 (by omega)
              have hb2 := Below.beside hbel o2 (by omega)
              have hc2 : w2.cell? ⟨rb, off + k, none⟩ = some (.int .i64 x) := (bc hb2 hrb).trans hcell
              obtain ⟨q0, f0⟩ := hq2.one 0 rfl
              obtain ⟨q1, f1⟩ := hq2.one 1 rfl
              obtain ⟨q2, f2⟩ := hq2.one 2 rfl
              go_wp2_with (first | (go_at_call 45; refine (CL.out _).mono ?_; rintro e w1 ⟨rfl, rfl⟩) | (go_at_call 46; refine (AP.out _).mono ?_; rintro e w1 ⟨rfl, rfl⟩))
              go_roundw
              case rel => exact ⟨k + 1, 2, _, true, by omega, by go_num, rfl, by unfold bump; simp; omega, by unfold bump; simp; omega, by intro; omega, k2, hq2, hb2⟩
              case measure => simp [intOf]; omega
            · have hn : nxt st D h wn nr = 2 := by unfold nxt; omega
              rw [hn, show chm st 2 = true from by unfold chm; rw [y2, z3]; rfl] at ST
              have ST := Lib.hid ST
              have hcm : cm = false := by
                cases cm
                · rfl
                · have := hcm0 rfl; omega
              subst hcm
              clear hn
              go_wp2_with (go_at_call 43; refine (astate_any b _ kk).mono ?_; rintro e w1 ⟨rfl, rfl⟩)
              refine ST.out.mono ?_
              rintro e w2 ⟨rfl, k2, o2⟩
              have hq2 := hq.beside o2 (by omega)
              have hb2 := Below.beside hbel o2 (by omega)
              have hc2 : w2.cell? ⟨rb, off + k, none⟩ = some (.int .i64 x) := (bc hb2 hrb).trans hcell
              obtain ⟨q0, f0⟩ := hq2.one 0 rfl
              obtain ⟨q1, f1⟩ := hq2.one 1 rfl
              obtain ⟨q2, f2⟩ := hq2.one 2 rfl
              go_wp2_with (first | (go_at_call 45; refine (CL.out _).mono ?_; rintro e w1 ⟨rfl, rfl⟩) | (go_at_call 46; refine (AP.out _).mono ?_; rintro e w1 ⟨rfl, rfl⟩))
              go_roundw
              case rel => exact ⟨k + 1, 2, _, true, by omega, by go_num, rfl, by unfold bump; simp; omega, by unfold bump; simp; omega, by intro; omega, k2, hq2, hb2⟩
              case measure => simp [intOf]; omega
            · have hn : nxt st D h wn nr = 1 := by unfold nxt; omega
              rw [hn, show chm st 1 = false from by unfold chm; rw [y2, z3]; rfl] at ST
              have ST := Lib.hid ST
              clear hn
              go_wp2_with (go_at_call 43; refine (astate_any b _ kk).mono ?_; rintro e w1 ⟨rfl, rfl⟩)
              refine ST.out.mono ?_
              rintro e w2 ⟨rfl, k2, o2⟩
              have hq2 := hq.beside o2 (by omega)
              have hb2 := Below.beside hbel o2 (by omega)
              have hc2 : w2.cell? ⟨rb, off + k, none⟩ = some (.int .i64 x) := (bc hb2 hrb).trans hcell
              obtain ⟨q0, f0⟩ := hq2.one 0 rfl
              obtain ⟨q1, f1⟩ := hq2.one 1 rfl
              obtain ⟨q2, f2⟩ := hq2.one 2 rfl
              go_wp2_with (first | (go_at_call 45; refine (CL.out _).mono ?_; rintro e w1 ⟨rfl, rfl⟩) | (go_at_call 46; refine (AP.out _).mono ?_; rintro e w1 ⟨rfl, rfl⟩))
              go_roundw
              case rel => exact ⟨k + 1, 1, _, false, by omega, by go_num, rfl, by unfold bump; simp; omega, by unfold bump; simp; omega, by simp, k2, hq2, hb2⟩
              case measure => simp [intOf]; omega
        · go_wp2_with (go_at_call 37; refine (lives42 _).mono ?_; rintro e w1 ⟨rfl, hb3⟩)
          go_ret
          exact ⟨rfl, hbel.trans (hb3.mono hbel.size)⟩
end Go.Proofs.Ytmoamadpaepcfaa
