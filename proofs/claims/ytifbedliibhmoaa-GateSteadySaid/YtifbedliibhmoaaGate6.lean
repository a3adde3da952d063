/- The law GateSteady, walked. -/
import Derived.Test.YtifbedliibhmoaaGate3
namespace Go.Proofs.Ytifbedliibhmoaa
open Go.ChangeShapes Go.WideShapes Go.ChangeAt Go.RowKit
set_option linter.unusedVariables false
set_option linter.unusedSimpArgs false

theorem gaE_first {lo hi ra v : Int} (h1 : lo ≤ v) (h2 : v ≤ hi) (t : Int) : gaE lo hi ra 0 false t v = 0 := by
  unfold gaE gaF
  rw [if_neg (by omega), if_neg (by omega)]
  simp
theorem gaE_near {lo hi ra la v : Int} (ok : GaOk lo hi ra) (h1 : lo ≤ v) (h2 : v ≤ hi) (d1 : v - la ≤ ra) (d2 : la - v ≤ ra) : gaE lo hi ra la true (gaT 0) v = 0 := by
  obtain ⟨o1, o2, o3, o4, o5⟩ := ok
  rw [show gaT 0 = 1 by decide]
  have hM : gaM ra 1 = ra := by
    unfold gaM
    rw [Int.mul_one, if_neg (by omega)]
  have hD : ¬ ra < (if v - la < la - v then la - v else v - la) := by split <;> omega
  unfold gaE gaF
  rw [if_neg (by omega), if_neg (by omega), hM]
  simp [hD]

set_option maxRecDepth 100000 in
set_option maxHeartbeats 4000000 in
theorem law_GateSteady (lo hi ra fr : Int) (a : Option Addr) (cap : Nat) (l : List Int) (w : World) (hrow : RowIs .i64 w a l) (hl : l.length ≤ maxLen) :
    Calls Try.prog 6 #[.agg #[.int .i64 lo, .int .i64 hi, .int .i64 ra], .int .i64 fr, .slice a l.length cap] w fun e w' => e = .returned (.bool true) ∧ Below w.heap.size w w' := by
  unfold maxLen at hl
  have hq0 := Held.new w [.int .i64 lo, .int .i64 hi, .int .i64 ra] 23
  have hb0 : Below w.heap.size w (w.alloc (.cells #[.int .i64 lo, .int .i64 hi, .int .i64 ra] 23)) := (Below.refl _ _).alloc (Nat.le_refl _) _
  have GR := Lib.hid (fun u => gright_any lo hi ra u)
  by_cases hbig : 100 < l.length
  · go_enter Try.func6, Try.ntmps6
    go_wp2_with (go_at_call 24; refine (lives15 _).mono ?_; rintro e w1 ⟨rfl, hb2⟩)
    go_ret
    exact ⟨rfl, hb0.trans (hb2.mono hb0.size)⟩
  · cases hR : gaR lo hi ra
    · rw [hR] at GR
      go_enter Try.func6, Try.ntmps6
      go_wp2_with fail
      refine (GR.out _).mono ?_
      rintro e w1 ⟨rfl, hb1⟩
      have hb1 := hb0.trans (hb1.mono hb0.size)
      go_wp2_with (go_at_call 24; refine (lives15 _).mono ?_; rintro e w1 ⟨rfl, hb2⟩)
      go_ret
      exact ⟨rfl, hb1.trans (hb2.mono hb1.size)⟩
    · have ok := gaR_ok hR
      obtain ⟨o1, o2, o3, o4, o5⟩ := gaR_ok hR
      rw [hR] at GR
      by_cases hin : lo ≤ fr ∧ fr ≤ hi
      · obtain ⟨i1, i2⟩ := hin
        have hr1 : ra < 1099511627775 := by omega
        go_enter Try.func6, Try.ntmps6
        go_wp2_with fail
        refine (GR.out _).mono ?_
        rintro e w0 ⟨rfl, hb1⟩
        have hq0 := hq0.bel hb1
        have hb0 := hb0.trans (hb1.mono hb0.size)
        clear hb1 GR
        obtain ⟨q0, f0⟩ := hq0.one 0 rfl
        obtain ⟨q1, f1⟩ := hq0.one 1 rfl
        obtain ⟨q2, f2⟩ := hq0.one 2 rfl
        go_wp2_with fail
        refine (gnew_ok lo hi ra _ hR).mono ?_
        rintro e w1 ⟨b, hb, rfl, k1, hb1⟩
        have hq1 := hq0.bel hb1
        have hbel1 := hb0.trans (hb1.mono hb0.size)
        have hbw : w.heap.size < b := by have := hq0.lt; omega
        clear q0 q1 q2 f0 f1 f2 hq0 hb0 hb1 hb
        have G1 := fun u hu => gcheck_any (lo := lo) (hi := hi) (ra := ra) (la := 0) (kn := false) (tk := 0) b fr u hu ok (by omega) (by omega) (by omega) (by omega)
        rw [gaE_first i1 i2] at G1
        rw [show gaA 0 fr 0 = fr from rfl, show gaB 0 false = true from rfl, show gaN 0 (gaT 0) = 0 from rfl] at G1
        replace G1 := Lib.hid G1
        go_wp2_with fail
        refine (G1.out _ k1).mono ?_
        rintro e w2 ⟨rfl, k2, o2'⟩
        have hq2 := Held.beside hq1 o2' (by omega)
        have hb2 := Below.beside (w := w) hbel1 o2' (by omega)
        clear k1 hq1 hbel1 o2' G1
        go_wp2_with fail
        go_loopw [9, 10] (fun s9 i v => ∃ (k : Nat) (x : Int), k ≤ l.length ∧ i = .int .i64 k ∧ s9 = .int .i64 x ∧ lo ≤ x ∧ x ≤ hi ∧ Held b (gaC lo hi ra x true 0) v ∧ Held w.heap.size [.int .i64 lo, .int .i64 hi, .int .i64 ra] v ∧ Below w.heap.size w v) (fun _ i _ => l.length - (intOf i).toNat)
        case atStart => exact ⟨0, fr, Nat.zero_le _, rfl, rfl, i1, i2, k2, hq2, hb2⟩
        case round =>
          clear k2 hq2 hb2 i1 i2
          obtain ⟨k, x, hk, rfl, rfl, x1, x2, kk, hq, hbel⟩ := hrel
          obtain ⟨q0, f0⟩ := hq.one 0 rfl
          obtain ⟨q1, f1⟩ := hq.one 1 rfl
          obtain ⟨q2, f2⟩ := hq.one 2 rfl
          by_cases hlt : k < l.length
          · obtain ⟨tb', off, rfl, htb, hc0⟩ := hrow.at hlt
            generalize l.getD k 0 = d at *
            have hx : wr.cell? ⟨tb', off + k, none⟩ = some (.int .i64 d) := (bc hbel htb).trans hc0
            clear hc0 hrow
            by_cases hd : -ra ≤ d ∧ d ≤ ra
            · obtain ⟨d1, d2⟩ := hd
              by_cases hr : lo ≤ x + d ∧ x + d ≤ hi
              · obtain ⟨g1, g2⟩ := hr
                have G1 := fun u hu => gcheck_any (lo := lo) (hi := hi) (ra := ra) (la := x) (kn := true) (tk := 0) b (x + d) u hu ok (by omega) (by omega) (by omega) (by omega)
                rw [gaE_near ok g1 g2 (by omega) (by omega)] at G1
                rw [show gaA 0 (x + d) x = x + d from rfl, show gaB 0 true = true from rfl, show gaN 0 (gaT 0) = 0 from rfl] at G1
                replace G1 := Lib.hid G1
                go_wp2_with fail
                all_goals first | (exfalso; omega) | skip
                refine (G1.out _ kk).mono ?_
                rintro e w3 ⟨rfl, k3, o3'⟩
                have hq3 := Held.beside hq o3' (by omega)
                have hb3 := Below.beside (w := w) hbel o3' (by omega)
                go_wp2
                go_roundw
                case rel => exact ⟨k + 1, x + d, by omega, by go_num, rfl, g1, g2, k3, hq3, hb3⟩
                case measure => simp [intOf]; omega
              · have G1 := fun u hu => gcheck_any (lo := lo) (hi := hi) (ra := ra) (la := x) (kn := true) (tk := 0) b x u hu ok (by omega) (by omega) (by omega) (by omega)
                rw [gaE_near ok x1 x2 (by omega) (by omega)] at G1
                rw [show gaA 0 x x = x from rfl, show gaB 0 true = true from rfl, show gaN 0 (gaT 0) = 0 from rfl] at G1
                replace G1 := Lib.hid G1
                go_wp2_with fail
                all_goals first | (exfalso; omega) | skip
                all_goals
                  refine (G1.out _ kk).mono ?_
                  rintro e w3 ⟨rfl, k3, o3'⟩
                  have hq3 := Held.beside hq o3' (by omega)
                  have hb3 := Below.beside (w := w) hbel o3' (by omega)
                  go_wp2
                  go_roundw
                  case rel => exact ⟨k + 1, x, by omega, by go_num, rfl, x1, x2, k3, hq3, hb3⟩
                  case measure => simp [intOf]; omega
            · go_wp2
              all_goals first | (exfalso; omega) | skip
              all_goals
                go_roundw
                case rel => exact ⟨k + 1, x, by omega, by go_num, rfl, x1, x2, kk, hq, hbel⟩
                case measure => simp [intOf]; omega
          · go_wp2_with (go_at_call 24; refine (lives15 _).mono ?_; rintro e w1 ⟨rfl, hb3⟩)
            go_ret
            exact ⟨rfl, hbel.trans (hb3.mono hbel.size)⟩
      · go_enter Try.func6, Try.ntmps6
        go_wp2_with fail
        refine (GR.out _).mono ?_
        rintro e w1 ⟨rfl, hb1⟩
        have hq1 := hq0.bel hb1
        have hb1 := hb0.trans (hb1.mono hb0.size)
        obtain ⟨q0, f0⟩ := hq1.one 0 rfl
        obtain ⟨q1, f1⟩ := hq1.one 1 rfl
        obtain ⟨q2, f2⟩ := hq1.one 2 rfl
        go_wp2_with (go_at_call 24; refine (lives15 _).mono ?_; rintro e w1 ⟨rfl, hb2⟩)
        all_goals first | (exfalso; omega) | skip
        all_goals
          go_ret
          exact ⟨rfl, hb1.trans (hb2.mono hb1.size)⟩
end Go.Proofs.Ytifbedliibhmoaa
