/- The law LagHolds, walked. -/
import Derived.Test.YtkchacjlddddjaaLag3
namespace Go.Proofs.Ytkchacjlddddjaa
open Go.ChangeShapes Go.WideShapes Go.ChangeAt Go.RowKit
set_option linter.unusedVariables false
set_option linter.unusedSimpArgs false

def LhI (fr to y : Int) : Prop := (fr ≤ to → fr ≤ y ∧ y ≤ to) ∧ (to ≤ fr → to ≤ y ∧ y ≤ fr)

set_option maxRecDepth 100000 in
set_option maxHeartbeats 4000000 in
theorem law_LagHolds (sh fr to : Int) (w : World) :
    Calls Try.prog 5 #[.int .i64 sh, .int .i64 fr, .int .i64 to] w fun e w' => e = .returned (.bool true) ∧ Below w.heap.size w w' := by
  have C1 := Lib.hid (fun u => r16clip_any fr u)
  have C2 := Lib.hid (fun u => r16clip_any to u)
  have fb := clq_bd fr
  have tb := clq_bd to
  by_cases hp : 0 ≤ sh ∧ sh ≤ 16
  · obtain ⟨p1, p2⟩ := hp
    by_cases hall : clq fr = fr ∧ clq to = to
    · obtain ⟨g2, g3⟩ := hall
      have S1 := fun b u hu => lgstep_any (sh := sh) (y := 0) (kn := false) b fr u hu p1 p2 (by omega) (by omega)
      have S2 := fun b u hu => lgstep_any (sh := sh) (y := fr) (kn := true) b fr u hu p1 p2 (by omega) (by omega)
      have S3 := fun b (y : Int) (y1 : -549755813887 ≤ y) (y2 : y ≤ 549755813887) u hu => lgstep_any (sh := sh) (y := y) (kn := true) b to u hu p1 p2 y1 y2
      simp only [if_true, if_false, Bool.false_eq_true, g2, g3, lgV_self] at S1 S2 S3
      rw [g2] at fb C1
      rw [g3] at tb C2
      clear g2 g3
      replace S1 := Lib.hid S1
      replace S2 := Lib.hid S2
      replace S3 := Lib.hid S3
      have LB := Lib.hid (fun y h => lgV_between sh y to h)
      go_enter Try.func5, Try.ntmps5
      go_wp2_with fail
      refine (lgnew_ok sh _ p1 p2).mono ?_
      rintro e w1 ⟨b, hb, rfl, h1, hb1⟩
      go_wp2_with ((go_at_call 27; (first | (with_reducible refine (C1.out _).mono ?_) | (with_reducible refine (C2.out _).mono ?_)); rintro e w' ⟨rfl, rfl⟩))
      refine (S1.out b _ h1).mono ?_
      rintro e w2 ⟨rfl, h2, o2⟩
      have hb2 := Below.beside hb1 o2 hb
      clear h1 o2 hb1 S1
      go_wp2_with fail
      refine (S2.out b _ h2).mono ?_
      rintro e w3 ⟨rfl, h3, o3⟩
      have hb3 := Below.beside hb2 o3 hb
      clear h2 o3 hb2 S2 C1 C2
      go_wp2_with fail
      go_loopw [9, 10] (fun s9 i u => ∃ (k : Nat) (y : Int), k ≤ 20 ∧ s9 = .int .i64 y ∧ i = .int .i64 k ∧ -549755813887 ≤ y ∧ y ≤ 549755813887 ∧ Hid (LhI fr to y) ∧ Held b (lgC sh y true) u ∧ Below w.heap.size w u) (fun _ i _ => 20 - (intOf i).toNat)
      case atStart => exact ⟨0, fr, by omega, rfl, rfl, fb.1, fb.2, Lib.hid ⟨fun h => ⟨by omega, h⟩, fun h => ⟨h, by omega⟩⟩, h3, hb3⟩
      case round =>
        clear h3 hb3
        obtain ⟨k, y, hk, rfl, rfl, y1, y2, HI, hh, hbel⟩ := hrel
        by_cases hlt : k < 20
        · have L := LB.out y (by omega)
          have Z := Lib.hid (S3.out b y y1 y2 _ hh)
          clear S3 LB
          have hi := HI.out
          unfold LhI at hi
          generalize hn : lgV sh y to = n at L Z
          have HN : Hid (LhI fr to n) := Lib.hid ⟨fun h => by have := hi.1 h; omega, fun h => by have := hi.2 h; omega⟩
          clear hn HI
          have n1 : -549755813887 ≤ n := by omega
          have n2 : n ≤ 549755813887 := by omega
          go_wp2_with fail
          refine Z.out.mono ?_
          rintro e w4 ⟨rfl, h4, o4⟩
          have hb4 := Below.beside hbel o4 hb
          clear Z o4
          rcases Int.lt_trichotomy fr to with hft | rfl | hft
          · have d1 := hi.1 (by omega)
            have e1 : y ≤ n := (L.1 d1.2).1
            have e2 : n ≤ to := (L.1 d1.2).2
            clear L hi
            go_wp2
            go_roundw
            case rel => exact ⟨k + 1, n, by omega, rfl, by go_num, n1, n2, HN, h4, hb4⟩
            case measure => simp [intOf]; omega
          · have d1 := hi.1 (by omega)
            obtain rfl : y = fr := by have := hi.2 (by omega); omega
            obtain rfl : n = y := by omega
            clear L hi
            go_wp2
            go_roundw
            case rel => exact ⟨k + 1, n, by omega, rfl, by go_num, n1, n2, HN, h4, hb4⟩
            case measure => simp [intOf]; omega
          · have d1 := hi.2 (by omega)
            have e1 : n ≤ y := (L.2 d1.1).2
            have e2 : to ≤ n := (L.2 d1.1).1
            clear L hi
            go_wp2
            go_roundw
            case rel => exact ⟨k + 1, n, by omega, rfl, by go_num, n1, n2, HN, h4, hb4⟩
            case measure => simp [intOf]; omega
        · clear S3 LB
          go_wp2_with (go_at_call 25; refine (lives16 _).mono ?_; rintro e w1 ⟨rfl, hb5⟩)
          go_ret
          exact ⟨rfl, hbel.trans (hb5.mono hbel.size)⟩
    · go_enter Try.func5, Try.ntmps5
      go_wp2_with fail
      refine (lgnew_ok sh _ p1 p2).mono ?_
      rintro e w1 ⟨b, hb, rfl, h1, hb1⟩
      by_cases g2 : clq fr = fr
      · have n2 : (clq fr != fr) = false := by simp [g2]
        have n3 : (clq to != to) = true := by simp; intro h; exact hall ⟨g2, h⟩
        clear g2 hall
        go_wp2_with (first | ((go_at_call 27; (first | (with_reducible refine (C1.out _).mono ?_) | (with_reducible refine (C2.out _).mono ?_)); rintro e w' ⟨rfl, rfl⟩)) | (go_at_call 25; refine (lives16 _).mono ?_; rintro e w1 ⟨rfl, hb7⟩))
        go_ret
        exact ⟨rfl, hb1.trans (hb7.mono hb1.size)⟩
      · have n2 : (clq fr != fr) = true := by simp; exact g2
        clear g2 hall
        go_wp2_with (first | ((go_at_call 27; (first | (with_reducible refine (C1.out _).mono ?_) | (with_reducible refine (C2.out _).mono ?_)); rintro e w' ⟨rfl, rfl⟩)) | (go_at_call 25; refine (lives16 _).mono ?_; rintro e w1 ⟨rfl, hb7⟩))
        go_ret
        exact ⟨rfl, hb1.trans (hb7.mono hb1.size)⟩
  · clear C1 C2
    go_enter Try.func5, Try.ntmps5
    go_wp2_with (first | (go_at_call 16; refine (lgnew_no sh _ hp).mono ?_; rintro e w1 ⟨rfl, rfl⟩) | (go_at_call 25; refine (lives16 _).mono ?_; rintro e w1 ⟨rfl, hb3⟩))
    go_ret
    exact ⟨rfl, hb3⟩
end Go.Proofs.Ytkchacjlddddjaa
