/- The law FadeBetween, walked. -/
import Derived.Test.YtkchacjlddddjaaFade3
namespace Go.Proofs.Ytkchacjlddddjaa
open Go.ChangeShapes Go.WideShapes Go.ChangeAt Go.RowKit
set_option linter.unusedVariables false

theorem part_core {d m q : Int} (hd : 0 ≤ d) (hm : 1 ≤ m) (hq : 0 ≤ q) (h : d ≤ m * (q + 1)) : d / m ≤ q + 1 ∧ d - d / m ≤ (m - 1) * (q + 1) ∧ 0 ≤ d / m ∧ d / m ≤ d := by
  have e := Int.mul_ediv_add_emod d m
  have r1 := Int.emod_nonneg d (by omega : m ≠ 0)
  have r2 := Int.emod_lt_of_pos d (by omega : 0 < m)
  have z1 : 0 ≤ d / m := Int.ediv_nonneg hd (by omega)
  have z2 : d / m ≤ d := Int.ediv_le_self _ hd
  generalize d / m = s at *
  generalize d % m = r at *
  have x1 : m * (q + 1) = m * q + m := by rw [Int.mul_add, Int.mul_one]
  have x2 : (m - 1) * (q + 1) = m * q + m - q - 1 := by rw [Int.sub_mul, x1, Int.one_mul]; omega
  have hs : s ≤ q + 1 := by
    apply Int.not_lt.1
    intro hlt
    have := Int.mul_le_mul_of_nonneg_left (show q + 2 ≤ s by omega) (show 0 ≤ m by omega)
    have x3 : m * (q + 2) = m * q + m + m := by rw [Int.mul_add]; omega
    omega
  refine ⟨hs, ?_, z1, z2⟩
  rcases Int.lt_or_eq_of_le hs with h1 | h1
  · have := Int.mul_le_mul_of_nonneg_left (show s ≤ q by omega) (show 0 ≤ m - 1 by omega)
    rw [Int.sub_mul, Int.sub_mul, Int.one_mul, Int.one_mul] at this
    omega
  · subst h1
    omega

/-- How far the way has been gone behind k steps. -/
def FdB (fr to len : Int) (k : Nat) (out : Int) : Prop :=
  (fr ≤ to → fr ≤ out ∧ out ≤ to ∧ to - out ≤ (len - k) * ((to - fr) / len + 1)) ∧ (to ≤ fr → to ≤ out ∧ out ≤ fr ∧ out - to ≤ (len - k) * ((fr - to) / len + 1))
theorem way_lt {d len : Int} (h : 1 ≤ len) : d ≤ len * (d / len + 1) := by
  have e := Int.mul_ediv_add_emod d len
  have r2 := Int.emod_lt_of_pos d (by omega : 0 < len)
  rw [Int.mul_add, Int.mul_one]
  omega
theorem FdB.start {fr to len : Int} (h : 1 ≤ len) : FdB fr to len 0 fr := by
  refine ⟨fun h1 => ⟨by omega, h1, ?_⟩, fun h1 => ⟨h1, by omega, ?_⟩⟩
  · have := way_lt (d := to - fr) h
    simpa using this
  · have := way_lt (d := fr - to) h
    simpa using this
theorem FdB.step {fr to len : Int} {k : Nat} {out n : Int} (hk : (k : Int) < len) (h : FdB fr to len k out) (hn : n = out + (to - out).tdiv (len - k)) :
    (fr ≤ to → out ≤ n ∧ n ≤ to ∧ n - out ≤ (to - fr) / len + 1) ∧ (to ≤ fr → to ≤ n ∧ n ≤ out ∧ out - n ≤ (fr - to) / len + 1) ∧ FdB fr to len (k + 1) n ∧ ((k : Int) + 1 = len → n = to) := by
  have up : fr ≤ to → out ≤ n ∧ n ≤ to ∧ n - out ≤ (to - fr) / len + 1 ∧ to - n ≤ (len - (k + 1 : Nat)) * ((to - fr) / len + 1) := fun h1 => by
    obtain ⟨a1, a2, a3⟩ := h.1 h1
    have := part_core (d := to - out) (m := len - k) (q := (to - fr) / len) (by omega) (by omega) (Int.ediv_nonneg (by omega) (by omega)) a3
    rw [Int.tdiv_eq_ediv_of_nonneg (by omega)] at hn
    have e : (len - (k + 1 : Nat)) = len - k - 1 := by push_cast; omega
    rw [e]
    omega
  have dn : to ≤ fr → to ≤ n ∧ n ≤ out ∧ out - n ≤ (fr - to) / len + 1 ∧ n - to ≤ (len - (k + 1 : Nat)) * ((fr - to) / len + 1) := fun h1 => by
    obtain ⟨a1, a2, a3⟩ := h.2 h1
    have := part_core (d := out - to) (m := len - k) (q := (fr - to) / len) (by omega) (by omega) (Int.ediv_nonneg (by omega) (by omega)) a3
    have e0 : (to - out).tdiv (len - k) = -((out - to) / (len - k)) := by
      rw [show to - out = -(out - to) by omega, Int.neg_tdiv, Int.tdiv_eq_ediv_of_nonneg (by omega)]
    rw [e0] at hn
    have e : (len - (k + 1 : Nat)) = len - k - 1 := by push_cast; omega
    rw [e]
    omega
  refine ⟨fun h1 => ⟨(up h1).1, (up h1).2.1, (up h1).2.2.1⟩, fun h1 => ⟨(dn h1).1, (dn h1).2.1, (dn h1).2.2.1⟩, ⟨fun h1 => ⟨by have := (h.1 h1).1; have := (up h1).1; omega, (up h1).2.1, (up h1).2.2.2⟩, fun h1 => ⟨(dn h1).1, by have := (h.2 h1).2.1; have := (dn h1).2.1; omega, (dn h1).2.2.2⟩⟩, fun h1 => ?_⟩
  rw [show len - k = 1 by omega, Int.tdiv_one] at hn
  omega

def FbI (fr to len : Int) (k : Nat) (out lf : Int) : Prop := (k = 0 ∧ out = fr) ∨ (1 ≤ k ∧ lf = len - k ∧ FdB fr to len k out ∧ ((k : Int) = len → out = to))
theorem fb_step {fr to len : Int} {k : Nat} {out lf : Int} (hk : (k : Int) < len) (I : FbI fr to len k out lf) :
    fdL len true ((k : Int) == 0) lf = len - k ∧ (fr ≤ to → out ≤ fdV (len - k) out to ∧ fdV (len - k) out to ≤ to ∧ fdV (len - k) out to - out ≤ (to - fr) / len + 1) ∧ (to ≤ fr → to ≤ fdV (len - k) out to ∧ fdV (len - k) out to ≤ out ∧ out - fdV (len - k) out to ≤ (fr - to) / len + 1) ∧ FbI fr to len (k + 1) (fdV (len - k) out to) (fdN (len - k)) := by
  have e1 : fdV (len - k) out to = out + (to - out).tdiv (len - k) := by unfold fdV; rw [if_pos (by omega)]
  have e2 : fdN (len - k) = len - k - 1 := by unfold fdN; rw [if_pos (by omega)]
  rcases I with ⟨rfl, rfl⟩ | ⟨h1, rfl, h2, h3⟩
  · have := FdB.step hk (FdB.start (by omega)) e1
    refine ⟨by simp [fdL], this.1, this.2.1, .inr ⟨by omega, by rw [e2]; push_cast; omega, this.2.2.1, fun h => this.2.2.2 (by push_cast at h; omega)⟩⟩
  · have := FdB.step hk h2 e1
    refine ⟨by rw [show ((k : Int) == 0) = false by rw [beq_eq_false_iff_ne]; omega]; rfl, this.1, this.2.1, .inr ⟨by omega, by rw [e2]; push_cast; omega, this.2.2.1, fun h => this.2.2.2 (by push_cast at h; omega)⟩⟩
theorem fb_bd {fr to len : Int} {k : Nat} {out lf : Int} (I : FbI fr to len k out lf) (a1 : -549755813887 ≤ fr) (a2 : fr ≤ 549755813887) (b1 : -549755813887 ≤ to) (b2 : to ≤ 549755813887) : -549755813887 ≤ out ∧ out ≤ 549755813887 := by
  rcases I with ⟨_, rfl⟩ | ⟨h1, _, h2, h3⟩
  · omega
  · rcases Int.le_total fr to with h | h
    · have := h2.1 h; omega
    · have := h2.2 h; omega
theorem fdV_self (L x : Int) : fdV L x x = x := by unfold fdV; split <;> simp

set_option maxRecDepth 100000 in
set_option maxHeartbeats 4000000 in
theorem law_FadeBetween (len fr to : Int) (w : World) :
    Calls Try.prog 14 #[.int .i64 len, .int .i64 fr, .int .i64 to] w fun e w' => e = .returned (.bool true) ∧ Below w.heap.size w w' := by
  have C1 := fun u => r16clip_any fr u
  have C2 := fun u => r16clip_any to u
  by_cases hp : 0 ≤ len ∧ len ≤ 1000
  · obtain ⟨p1, p2⟩ := hp
    by_cases hall : len ≤ 100 ∧ clq fr = fr ∧ clq to = to
    · obtain ⟨g1, g2, g3⟩ := hall
      have fb := clq_bd fr
      have tb := clq_bd to
      have ST := fun (b : Nat) (out : Int) (kn : Bool) (lf v : Int) (ch : Bool) (u : World) (hu : Held b (fdC len out kn lf) u) => fstep_any b v ch u hu
      rw [g2] at fb C1
      rw [g3] at tb C2
      replace C1 := Lib.hid C1
      replace C2 := Lib.hid C2
      have G2 := Lib.hid g2
      have G3 := Lib.hid g3
      clear g2 g3
      replace ST := Lib.hid ST
      go_enter Try.func14, Try.ntmps14
      go_wp2_with fail
      refine (fnew_ok len _ p1 p2).mono ?_
      rintro e w1 ⟨b, hb, rfl, h1, hb1⟩
      go_wp2_with ((go_at_call 27; (first | (with_reducible refine (C1.out _).mono ?_) | (with_reducible refine (C2.out _).mono ?_)); rintro e w' ⟨rfl, rfl⟩))
      have S1 := ST.out b 0 false 0 fr false _ h1 (by omega) (by omega) p2 (by omega) (by omega)
      rw [G2.out, show fdL len false false 0 = 0 from rfl, show fdV 0 0 fr = fr by simp [fdV], show fdN 0 = 0 from rfl] at S1
      refine S1.mono ?_
      clear S1
      rintro e w2 ⟨rfl, h2, o2⟩
      have hb2 := Below.beside hb1 o2 hb
      go_wp2_with fail
      have S2 := ST.out b fr true 0 fr true _ h2 (by omega) (by omega) p2 fb.1 fb.2
      rw [G2.out, fdV_self, show fdL len true true 0 = len from rfl] at S2
      refine S2.mono ?_
      clear S2
      rintro e w3 ⟨rfl, h3, o3⟩
      have hb3 := Below.beside hb2 o3 hb
      have n3 := fdN_bd p1 (Int.le_refl len)
      generalize fdN len = lf3 at h3 n3
      go_wp2_with fail
      have S3 := ST.out b fr true lf3 fr false _ h3 n3.1 n3.2 p2 fb.1 fb.2
      rw [G2.out, fdV_self, show fdL len true false lf3 = lf3 from rfl] at S3
      refine S3.mono ?_
      clear S3
      rintro e w4 ⟨rfl, h4, o4⟩
      have hb4 := Below.beside hb3 o4 hb
      have n4 := fdN_bd n3.1 n3.2
      generalize fdN lf3 = lf4 at h4 n4
      go_wp2_with fail
      have S4 := ST.out b fr true lf4 fr false _ h4 n4.1 n4.2 p2 fb.1 fb.2
      rw [G2.out, fdV_self, show fdL len true false lf4 = lf4 from rfl] at S4
      refine S4.mono ?_
      clear S4
      rintro e w5 ⟨rfl, h5, o5⟩
      have hb5 := Below.beside hb4 o5 hb
      have n5 := fdN_bd n4.1 n4.2
      generalize fdN lf4 = lf5 at h5 n5
      clear h1 hb1 o2 h2 hb2 o3 h3 hb3 n3 o4 h4 hb4 n4 o5
      go_wp2_with fail
      go_loopw [9, 10] (fun s9 i u => ∃ (k : Nat) (out lf : Int), (k : Int) ≤ len ∧ s9 = .int .i64 out ∧ i = .int .i64 k ∧ 0 ≤ lf ∧ lf ≤ len ∧ Hid (FbI fr to len k out lf) ∧ Held b (fdC len out true lf) u ∧ Below w.heap.size w u) (fun _ i _ => len.toNat - (intOf i).toNat)
      case atStart => exact ⟨0, fr, lf5, by omega, rfl, rfl, n5.1, n5.2, Lib.hid (.inl ⟨rfl, rfl⟩), h5, hb5⟩
      case round =>
        clear h5 hb5 n5
        obtain ⟨k, out, lf, hk, rfl, rfl, l0, l1, HI, hh, hbel⟩ := hrel
        have ob := fb_bd HI.out fb.1 fb.2 tb.1 tb.2
        by_cases hlt : (k : Int) < len
        · have F := fb_step hlt HI.out
          obtain ⟨F0, F1, F2, F3⟩ := F
          have S6 := ST.out b out true lf to ((k : Int) == 0) wr hh l0 l1 p2 ob.1 ob.2
          rw [G3.out, F0] at S6
          have nb := fdN_bd (L := len - k) (len := len) (by omega) (by omega)
          have nn := fb_bd F3 fb.1 fb.2 tb.1 tb.2
          clear F0
          generalize fdV (len - k) out to = n at *
          generalize fdN (len - k) = lf' at *
          have F3 := Lib.hid F3
          clear HI ST
          rcases Int.lt_trichotomy fr to with hft | hft | hft
          · have f1 := F1 (by omega)
            clear F1 F2
            obtain ⟨a1, a2, a3⟩ := f1
            have qb1 : 0 ≤ (to - fr) / len := Int.ediv_nonneg (by omega) (by omega)
            have qb2 : (to - fr) / len ≤ to - fr := Int.ediv_le_self _ (by omega)
            have z0 : decide (n - out < 0) = false := decide_eq_false (by omega)
            have z1 : decide ((to - fr) / len + 1 < n - out) = false := decide_eq_false (by omega)
            rcases Nat.eq_zero_or_pos k with hk0 | hk0
            · have hk1 : ((k : Int) == 0) = true := by rw [beq_iff_eq]; omega
              rw [hk1] at S6
              replace S6 := Lib.hid S6
              clear hk0
              go_wp2_with fail
              refine S6.out.mono ?_
              rintro e w6 ⟨rfl, h6, o6⟩
              have hb6 := Below.beside hbel o6 hb
              go_wp2
              all_goals
                go_roundw
                case rel => exact ⟨k + 1, n, lf', by omega, by go_num, by go_num, nb.1, nb.2, F3, h6, hb6⟩
                case measure => simp [intOf]; omega
            · have hk1 : ((k : Int) == 0) = false := by rw [beq_eq_false_iff_ne]; omega
              rw [hk1] at S6
              replace S6 := Lib.hid S6
              clear hk0
              go_wp2_with fail
              refine S6.out.mono ?_
              rintro e w6 ⟨rfl, h6, o6⟩
              have hb6 := Below.beside hbel o6 hb
              go_wp2
              all_goals
                go_roundw
                case rel => exact ⟨k + 1, n, lf', by omega, by go_num, by go_num, nb.1, nb.2, F3, h6, hb6⟩
                case measure => simp [intOf]; omega
          · subst hft
            have f1 := F1 (by omega)
            have f2 := F2 (by omega)
            clear F1 F2
            obtain ⟨a1, a2, a3⟩ := f1
            obtain ⟨b1, b2, b3⟩ := f2
            obtain rfl : n = out := by omega
            rcases Nat.eq_zero_or_pos k with hk0 | hk0
            · have hk1 : ((k : Int) == 0) = true := by rw [beq_iff_eq]; omega
              rw [hk1] at S6
              replace S6 := Lib.hid S6
              clear hk0
              go_wp2_with fail
              refine S6.out.mono ?_
              rintro e w6 ⟨rfl, h6, o6⟩
              have hb6 := Below.beside hbel o6 hb
              go_wp2
              all_goals
                go_roundw
                case rel => exact ⟨k + 1, n, lf', by omega, by go_num, by go_num, nb.1, nb.2, F3, h6, hb6⟩
                case measure => simp [intOf]; omega
            · have hk1 : ((k : Int) == 0) = false := by rw [beq_eq_false_iff_ne]; omega
              rw [hk1] at S6
              replace S6 := Lib.hid S6
              clear hk0
              go_wp2_with fail
              refine S6.out.mono ?_
              rintro e w6 ⟨rfl, h6, o6⟩
              have hb6 := Below.beside hbel o6 hb
              go_wp2
              all_goals
                go_roundw
                case rel => exact ⟨k + 1, n, lf', by omega, by go_num, by go_num, nb.1, nb.2, F3, h6, hb6⟩
                case measure => simp [intOf]; omega
          · have f2 := F2 (by omega)
            clear F1 F2
            obtain ⟨b1, b2, b3⟩ := f2
            by_cases hst : n < out
            · have z0 : decide (n - out < 0) = true := decide_eq_true (by omega)
              have qb1 : 0 ≤ (fr - to) / len := Int.ediv_nonneg (by omega) (by omega)
              have qb2 : (fr - to) / len ≤ fr - to := Int.ediv_le_self _ (by omega)
              have hq : (to - fr).tdiv len = -((fr - to) / len) := by rw [show to - fr = -(fr - to) by omega, Int.neg_tdiv, Int.tdiv_eq_ediv_of_nonneg (by omega)]
              generalize (fr - to) / len = Q at *
              have z1 : decide (Q + 1 < -(n - out)) = false := decide_eq_false (by omega)
              rcases Nat.eq_zero_or_pos k with hk0 | hk0
              · have hk1 : ((k : Int) == 0) = true := by rw [beq_iff_eq]; omega
                rw [hk1] at S6
                replace S6 := Lib.hid S6
                clear hk0
                go_wp2_with fail
                refine S6.out.mono ?_
                rintro e w6 ⟨rfl, h6, o6⟩
                have hb6 := Below.beside hbel o6 hb
                go_wp2
                all_goals
                  go_roundw
                  case rel => exact ⟨k + 1, n, lf', by omega, by go_num, by go_num, nb.1, nb.2, F3, h6, hb6⟩
                  case measure => simp [intOf]; omega
              · have hk1 : ((k : Int) == 0) = false := by rw [beq_eq_false_iff_ne]; omega
                rw [hk1] at S6
                replace S6 := Lib.hid S6
                clear hk0
                go_wp2_with fail
                refine S6.out.mono ?_
                rintro e w6 ⟨rfl, h6, o6⟩
                have hb6 := Below.beside hbel o6 hb
                go_wp2
                all_goals
                  go_roundw
                  case rel => exact ⟨k + 1, n, lf', by omega, by go_num, by go_num, nb.1, nb.2, F3, h6, hb6⟩
                  case measure => simp [intOf]; omega
            · obtain rfl : n = out := by omega
              have z2 : ¬ 0 ≤ to - fr := by omega
              rcases Nat.eq_zero_or_pos k with hk0 | hk0
              · have hk1 : ((k : Int) == 0) = true := by rw [beq_iff_eq]; omega
                rw [hk1] at S6
                replace S6 := Lib.hid S6
                clear hk0
                go_wp2_with fail
                refine S6.out.mono ?_
                rintro e w6 ⟨rfl, h6, o6⟩
                have hb6 := Below.beside hbel o6 hb
                go_wp2
                all_goals
                  go_roundw
                  case rel => exact ⟨k + 1, n, lf', by omega, by go_num, by go_num, nb.1, nb.2, F3, h6, hb6⟩
                  case measure => simp [intOf]; omega
              · have hk1 : ((k : Int) == 0) = false := by rw [beq_eq_false_iff_ne]; omega
                rw [hk1] at S6
                replace S6 := Lib.hid S6
                clear hk0
                go_wp2_with fail
                refine S6.out.mono ?_
                rintro e w6 ⟨rfl, h6, o6⟩
                have hb6 := Below.beside hbel o6 hb
                go_wp2
                all_goals
                  go_roundw
                  case rel => exact ⟨k + 1, n, lf', by omega, by go_num, by go_num, nb.1, nb.2, F3, h6, hb6⟩
                  case measure => simp [intOf]; omega
        · have S6 := fun ch u hu => ST.out b out true lf to ch u hu l0 l1 p2 ob.1 ob.2
          by_cases h0 : len = 0
          · subst h0
            obtain rfl : lf = 0 := by omega
            have S7 := S6 true wr hh
            rw [G3.out, show fdL 0 true true 0 = 0 from rfl, show fdV 0 out to = to by simp [fdV], show fdN 0 = 0 from rfl] at S7
            clear ST S6 HI
            replace S7 := Lib.hid S7
            go_wp2_with fail
            refine S7.out.mono ?_
            rintro e w6 ⟨rfl, h6, o6⟩
            have hb6 := Below.beside hbel o6 hb
            go_wp2_with (first | (go_at_call 48; refine (fleft_any b _ h6).mono ?_; rintro e w1 ⟨rfl, rfl⟩) | (go_at_call 49; refine (lives26 _).mono ?_; rintro e w1 ⟨rfl, hb7⟩))
            go_ret
            exact ⟨rfl, hb6.trans (hb7.mono hb6.size)⟩
          · have hI : out = to ∧ lf = 0 := by
              rcases HI.out with ⟨h, _⟩ | ⟨h1, h2, _, h3⟩
              · omega
              · exact ⟨h3 (by omega), by omega⟩
            obtain ⟨rfl, rfl⟩ := hI
            have S7 := S6 false wr hh
            rw [G3.out, show fdL len true false 0 = 0 from rfl, show fdV 0 out out = out by simp [fdV], show fdN 0 = 0 from rfl] at S7
            clear ST S6 HI
            replace S7 := Lib.hid S7
            have h0' : (len == 0) = false := by rw [beq_eq_false_iff_ne]; exact h0
            clear h0
            go_wp2_with fail
            refine S7.out.mono ?_
            rintro e w6 ⟨rfl, h6, o6⟩
            have hb6 := Below.beside hbel o6 hb
            go_wp2_with (first | (go_at_call 48; refine (fleft_any b _ h6).mono ?_; rintro e w1 ⟨rfl, rfl⟩) | (go_at_call 49; refine (lives26 _).mono ?_; rintro e w1 ⟨rfl, hb7⟩))
            go_ret
            exact ⟨rfl, hb6.trans (hb7.mono hb6.size)⟩
    · replace C1 := Lib.hid C1
      replace C2 := Lib.hid C2
      go_enter Try.func14, Try.ntmps14
      go_wp2_with fail
      refine (fnew_ok len _ p1 p2).mono ?_
      rintro e w1 ⟨b, hb, rfl, h1, hb1⟩
      by_cases g1 : len ≤ 100
      · by_cases g2 : clq fr = fr
        · have n2 : (clq fr != fr) = false := by simp [g2]
          have n3 : (clq to != to) = true := by simp; intro h; exact hall ⟨g1, g2, h⟩
          clear g2 hall
          go_wp2_with (first | ((go_at_call 27; (first | (with_reducible refine (C1.out _).mono ?_) | (with_reducible refine (C2.out _).mono ?_)); rintro e w' ⟨rfl, rfl⟩)) | (go_at_call 49; refine (lives26 _).mono ?_; rintro e w1 ⟨rfl, hb7⟩))
          go_ret
          exact ⟨rfl, hb1.trans (hb7.mono hb1.size)⟩
        · have n2 : (clq fr != fr) = true := by simp; exact g2
          clear g2 hall
          go_wp2_with (first | ((go_at_call 27; (first | (with_reducible refine (C1.out _).mono ?_) | (with_reducible refine (C2.out _).mono ?_)); rintro e w' ⟨rfl, rfl⟩)) | (go_at_call 49; refine (lives26 _).mono ?_; rintro e w1 ⟨rfl, hb7⟩))
          go_ret
          exact ⟨rfl, hb1.trans (hb7.mono hb1.size)⟩
      · clear hall
        go_wp2_with (first | ((go_at_call 27; (first | (with_reducible refine (C1.out _).mono ?_) | (with_reducible refine (C2.out _).mono ?_)); rintro e w' ⟨rfl, rfl⟩)) | (go_at_call 49; refine (lives26 _).mono ?_; rintro e w1 ⟨rfl, hb7⟩))
        go_ret
        exact ⟨rfl, hb1.trans (hb7.mono hb1.size)⟩
  · clear C1 C2
    go_enter Try.func14, Try.ntmps14
    go_wp2_with (first | (go_at_call 44; refine (fnew_no len _ hp).mono ?_; rintro e w1 ⟨rfl, rfl⟩) | (go_at_call 49; refine (lives26 _).mono ?_; rintro e w1 ⟨rfl, hb3⟩))
    go_ret
    exact ⟨rfl, hb3⟩
end Go.Proofs.Ytkchacjlddddjaa
