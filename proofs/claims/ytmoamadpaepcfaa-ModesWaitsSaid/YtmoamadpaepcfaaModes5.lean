/- The law ModesWaits, walked. -/
import Derived.Test.YtmoamadpaepcfaaModes4
namespace Go.Proofs.Ytmoamadpaepcfaa
open Go.ChangeShapes Go.WideShapes Go.ChangeAt Go.RowKit
set_option linter.unusedVariables false

set_option maxRecDepth 100000 in
set_option maxHeartbeats 4000000 in
theorem law_ModesWaits (p : Int) (t : Option Addr) (cap : Nat) (rows : List (List Value)) (w : World) (ht : Tab [none, none, none, none, none] w t rows) (hl : rows.length ≤ maxLen) :
    Calls Try.prog 9 #[.int .i64 p, .slice t rows.length cap] w fun e w' => e = .returned (.bool true) ∧ Below w.heap.size w w' := by
  unfold maxLen at hl
  by_cases hp : 1 ≤ p ∧ p ≤ 10000
  · obtain ⟨p1, p2⟩ := hp
    go_enter Try.func9, Try.ntmps9
    go_wp2_with fail
    refine (mnew_ok p _ p1 p2).mono ?_
    rintro e w1 ⟨b, hb, rfl, h1, hb1⟩
    by_cases hbig : 200 < rows.length
    · go_wp2_with (go_at_call 31; refine (lives25 _).mono ?_; rintro e w1 ⟨rfl, hb2⟩)
      go_ret
      exact ⟨rfl, hb1.trans (hb2.mono hb1.size)⟩
    · go_wp2_with fail
      go_loopw [7, 8] (fun ak i v => ∃ (k : Nat) (md n c : Int), k ≤ rows.length ∧ i = .int .i64 k ∧ ak = .int .i64 n ∧ 0 ≤ n ∧ n < p ∧ 0 ≤ c ∧ c ≤ k ∧ Held b (mdC p md n c) v ∧ Below w.heap.size w v) (fun _ i _ => rows.length - (intOf i).toNat)
      case atStart => exact ⟨0, 0, 0, 0, Nat.zero_le _, rfl, rfl, by omega, by omega, by omega, by omega, h1, hb1⟩
      case round =>
        obtain ⟨k, md, n, c, hk, rfl, rfl, n0, np, c0, c1, hh, hbel⟩ := hrel
        clear h1 hb1
        by_cases hlt : k < rows.length
        · obtain ⟨tb, off, wm, a, bb, s, d, rfl, htb, hcells⟩ := facts_at ht hlt
          have hcells := Lib.hid hcells
          clear ht
          obtain ⟨k0, k1, k2, k3, k4⟩ := hcells.out wr hbel
          have AS := Lib.hid (fun v => asked_any wm a bb s d v)
          have ST := Lib.hid (fun v (hv : Held b (mdC p md n c) v) => mstep_any b wm a bb s d v hv p2 n0 np c0 (by omega))
          have AC := askd_cases wm a bb s d
          generalize askd wm a bb s d = q at *
          have PC : prb q = true → q = 1 ∨ q = 2 ∨ q = 3 := fun h => by unfold prb at h; simp at h; omega
          have NC : prb q = false → q = 0 ∨ q = 4 ∨ q = 5 := fun h => by unfold prb at h; simp at h; omega
          have MB := msC_bd p md n c q s
          generalize msC p md n c q s = c' at *
          go_wp2_with (go_at_call 29; refine (mmode_any b _ hh).mono ?_; rintro e w1 ⟨rfl, rfl⟩)
          refine (AS.out _).mono ?_
          rintro e w2 ⟨rfl, hb2⟩
          have hbel2 := hbel.trans (hb2.mono hbel.size)
          have hh2 := hh.bel hb2
          obtain ⟨m0, m1, m2, m3, m4⟩ := hcells.out w2 hbel2
          clear k0 k1 k2 k3 k4 hb2 hh AS
          have ST1 := ST.out w2 hh2
          clear ST
          have eM : msM p md n q s = if msW p md n q s then 4 else q := rfl
          have eN : msN p md n q s = if msW p md n q s then n + 1 else 0 := rfl
          rw [eM, eN] at ST1
          clear eM eN
          cases hW : msW p md n q s
          · rw [hW, if_neg (by decide), if_neg (by decide)] at ST1
            have ST := Lib.hid ST1
            clear ST1
            cases h1 : (md == 4)
            · have h1' : (md != 4) = true := by simp [bne, h1]
              clear hW
              rcases AC with rfl | rfl | rfl | rfl | rfl | rfl
              all_goals
                go_wp2_with fail
                refine ST.out.mono ?_
                rintro e w3 ⟨rfl, h3, o3⟩
                have hbel3 := Below.beside hbel2 o3 hb
                obtain ⟨r0, r1, r2, r3, r4⟩ := hcells.out w3 hbel3
                clear m0 m1 m2 m3 m4 ST
                go_wp2
                go_roundw
                case rel => exact ⟨k + 1, _, _, c', by omega, by go_num, by first | rfl | go_num, by omega, by omega, by omega, by omega, h3, hbel3⟩
                case measure => simp [intOf]; omega
            · have h1' : (md != 4) = false := by simp [bne, h1]
              cases hpq : prb q
              · clear hW
                rcases NC hpq with rfl | rfl | rfl
                all_goals
                  go_wp2_with fail
                  refine ST.out.mono ?_
                  rintro e w3 ⟨rfl, h3, o3⟩
                  have hbel3 := Below.beside hbel2 o3 hb
                  obtain ⟨r0, r1, r2, r3, r4⟩ := hcells.out w3 hbel3
                  clear m0 m1 m2 m3 m4 ST
                  go_wp2
                  go_roundw
                  case rel => exact ⟨k + 1, _, _, c', by omega, by go_num, by first | rfl | go_num, by omega, by omega, by omega, by omega, h3, hbel3⟩
                  case measure => simp [intOf]; omega
              · cases s
                · clear hW
                  rcases PC hpq with rfl | rfl | rfl
                  all_goals
                    go_wp2_with fail
                    refine ST.out.mono ?_
                    rintro e w3 ⟨rfl, h3, o3⟩
                    have hbel3 := Below.beside hbel2 o3 hb
                    obtain ⟨r0, r1, r2, r3, r4⟩ := hcells.out w3 hbel3
                    clear m0 m1 m2 m3 m4 ST
                    go_wp2
                    go_roundw
                    case rel => exact ⟨k + 1, _, _, c', by omega, by go_num, by first | rfl | go_num, by omega, by omega, by omega, by omega, h3, hbel3⟩
                    case measure => simp [intOf]; omega
                · have h4 : decide (n + 1 < p) = false := by
                    unfold msW at hW
                    rw [h1, hpq] at hW
                    simpa using hW
                  clear hW
                  rcases PC hpq with rfl | rfl | rfl
                  all_goals
                    go_wp2_with fail
                    refine ST.out.mono ?_
                    rintro e w3 ⟨rfl, h3, o3⟩
                    have hbel3 := Below.beside hbel2 o3 hb
                    obtain ⟨r0, r1, r2, r3, r4⟩ := hcells.out w3 hbel3
                    clear m0 m1 m2 m3 m4 ST
                    go_wp2
                    go_roundw
                    case rel => exact ⟨k + 1, _, _, c', by omega, by go_num, by first | rfl | go_num, by omega, by omega, by omega, by omega, h3, hbel3⟩
                    case measure => simp [intOf]; omega
          · rw [hW, if_pos rfl, if_pos rfl] at ST1
            have ST := Lib.hid ST1
            clear ST1
            unfold msW at hW
            simp only [Bool.and_eq_true] at hW
            obtain ⟨⟨⟨h1, rfl⟩, hpq⟩, h4⟩ := hW
            have h1' : (md != 4) = false := by simp [bne, h1]
            have h5 := of_decide_eq_true h4
            rcases PC hpq with rfl | rfl | rfl
            all_goals
              go_wp2_with fail
              refine ST.out.mono ?_
              rintro e w3 ⟨rfl, h3, o3⟩
              have hbel3 := Below.beside hbel2 o3 hb
              obtain ⟨r0, r1, r2, r3, r4⟩ := hcells.out w3 hbel3
              clear m0 m1 m2 m3 m4 ST
              go_wp2
              go_roundw
              case rel => exact ⟨k + 1, _, _, c', by omega, by go_num, by first | rfl | go_num, by omega, by omega, by omega, by omega, h3, hbel3⟩
              case measure => simp [intOf]; omega
        · go_wp2_with (go_at_call 31; refine (lives25 _).mono ?_; rintro e w1 ⟨rfl, hb2⟩)
          go_ret
          exact ⟨rfl, hbel.trans (hb2.mono hbel.size)⟩
  · go_enter Try.func9, Try.ntmps9
    go_wp2_with (first | (go_at_call 26; refine (mnew_no p _ hp).mono ?_; rintro e w1 ⟨rfl, rfl⟩) | (go_at_call 31; refine (lives25 _).mono ?_; rintro e w1 ⟨rfl, hb3⟩))
    go_ret
    exact ⟨rfl, hb3⟩
end Go.Proofs.Ytmoamadpaepcfaa
