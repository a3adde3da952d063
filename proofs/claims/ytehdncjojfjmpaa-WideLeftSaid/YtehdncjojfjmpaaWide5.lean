/- The law WideLeft, walked. -/
import Derived.Test.YtehdncjojfjmpaaWide4
namespace Go.Proofs.Ytehdncjojfjmpaa
open Go.ChangeShapes Go.WideShapes Go.ChangeAt Go.RowKit
set_option linter.unusedVariables false

theorem left_core (c q r M f n : Int) (x : Bool) (hd : q * c + r = M) (hr0 : 0 ≤ r) (hr1 : r < c)
    (h : (x = false ∧ f = q ∧ (n = q ∧ 2 * r < c ∨ n = q + 1 ∧ c ≤ 2 * r)) ∨ (x = true ∧ (f = -q ∧ r = 0 ∨ f = -q - 1 ∧ 0 < r) ∧ (n = -q ∧ 2 * r ≤ c ∨ n = -q - 1 ∧ c < 2 * r))) :
    0 ≤ (if x then -M else M) - f * c ∧ (if x then -M else M) - f * c < c ∧ f ≤ n ∧ n - f ≤ 1 ∧ 2 * ((if x then -M else M) - n * c) < c ∧ -c ≤ 2 * ((if x then -M else M) - n * c) := by
  have e1 : (q + 1) * c = q * c + c := by rw [Int.add_mul, Int.one_mul]
  have e2 : (-q) * c = -(q * c) := Int.neg_mul _ _
  have e3 : (-q - 1) * c = -(q * c) - c := by rw [Int.sub_mul, Int.neg_mul, Int.one_mul]
  rcases h with ⟨rfl, rfl, h⟩ | ⟨rfl, h1, h2⟩
  · rcases h with ⟨rfl, h⟩ | ⟨rfl, h⟩
    · simp only [Bool.false_eq_true, if_false]; omega
    · rw [e1]; simp only [Bool.false_eq_true, if_false]; omega
  · rcases h1 with ⟨rfl, h1⟩ | ⟨rfl, h1⟩ <;> rcases h2 with ⟨rfl, h2⟩ | ⟨rfl, h2⟩ <;> simp only [if_true, e2, e3] <;> omega

/-- Numbers below a million: what Floor, Near and Trunc tell. -/
theorem left_plain (a b c : Int) (ha1 : -1000000 < a) (ha2 : a < 1000000) (hb1 : -1000000 < b) (hb2 : b < 1000000) (hc1 : 1 ≤ c) (hc2 : c < 1000000) :
    flB a b c = true ∧ awB (mag a * mag b / mag c) (nrS a b c) = true ∧ awB (mag a * mag b / mag c) false = true ∧ mag a * mag b / 18446744073709551616 < mag c ∧
    0 ≤ a * b - flV a b c * c ∧ a * b - flV a b c * c < c ∧
    flV a b c ≤ awV (mag a * mag b / mag c) (xr a b c) (nrS a b c) ∧ awV (mag a * mag b / mag c) (xr a b c) (nrS a b c) - flV a b c ≤ 1 ∧
    2 * (a * b - awV (mag a * mag b / mag c) (xr a b c) (nrS a b c) * c) < c ∧ -c ≤ 2 * (a * b - awV (mag a * mag b / mag c) (xr a b c) (nrS a b c) * c) ∧
    -1000000000000 ≤ a * b ∧ a * b ≤ 1000000000000 := by
  have hm : 0 ≤ mag a * mag b := Int.mul_nonneg (by unfold mag; omega) (by unfold mag; omega)
  have hm2 : mag a * mag b ≤ 999999 * 999999 := Int.mul_le_mul (by unfold mag; omega) (by unfold mag; omega) (by unfold mag; omega) (by omega)
  have hC : mag c = c := by unfold mag; omega
  have hP : a * b = if xr a b c then -(mag a * mag b) else mag a * mag b := by
    rw [← wN_mag]; unfold wN; rw [if_neg (by omega)]
  have hok : mag a * mag b / 18446744073709551616 < mag c := by rw [hC]; omega
  have hf := floor_plain a b c hok hm
  have hwq : wq a b c = if xr a b c then (if 0 < mag a * mag b % c then -(mag a * mag b / c) - 1 else -(mag a * mag b / c)) else mag a * mag b / c := by
    unfold wq
    rw [wN_mag, hC]
    cases xr a b c
    · rfl
    · rw [if_pos rfl, if_pos rfl]; exact neg_floor _ _ (by omega)
  have hd := Int.mul_ediv_add_emod (mag a * mag b) c
  have hr0 := Int.emod_nonneg (mag a * mag b) (by omega : c ≠ 0)
  have hr1 := Int.emod_lt_of_pos (mag a * mag b) (by omega : 0 < c)
  have hq0 : 0 ≤ mag a * mag b / c := Int.ediv_nonneg hm (by omega)
  have hq1 : mag a * mag b / c ≤ 999999 * 999999 := Int.le_trans (Int.ediv_le_self _ hm) hm2
  rw [hC] at hok ⊢
  have hnr : nrS a b c = (decide (c - mag a * mag b % c < mag a * mag b % c) || (mag a * mag b % c == c - mag a * mag b % c) && !xr a b c) := by unfold nrS; rw [hC]
  have hin : wIn (wq a b c) = true := by
    unfold wIn
    apply decide_eq_true
    rw [hwq]
    generalize mag a * mag b / c = q at *
    split
    · split <;> omega
    · omega
  have hB : flB a b c = true := by
    unfold flB; rw [hin]
    have : (c != 0) = true := by simp; omega
    rw [this]; rfl
  have hV : flV a b c = wq a b c := by unfold flV; rw [hB]; rfl
  rw [hB, hV, hwq, hnr, hP]
  generalize mag a * mag b / c = q at *
  generalize mag a * mag b % c = r at *
  generalize mag a * mag b = M at *
  clear hf hin hB hV hwq hnr hP
  have e : c * q = q * c := Int.mul_comm _ _
  rw [e] at hd
  have hc0 : 0 < c := by omega
  have aB : ∀ st, awB q st = true := fun st => by
    unfold awB awN
    apply decide_eq_true
    cases st <;> simp <;> omega
  have aV : ∀ x st, awV q x st = if x then -(awN q st) else awN q st := fun x st => by unfold awV; rw [aB]; rfl
  have hz : (r == c - r) = decide (r = c - r) := rfl
  rw [hz, aV]
  have hst : ∀ x : Bool, (decide (c - r < r) || decide (r = c - r) && !x) = (if x then decide (c < 2 * r) else decide (c ≤ 2 * r)) := fun x => by
    rw [Bool.eq_iff_iff]
    cases x <;> simp <;> omega
  rw [hst]
  have hcore := left_core c q r M (if xr a b c then (if 0 < r then -q - 1 else -q) else q)
    (if xr a b c then -(awN q (if xr a b c then decide (c < 2 * r) else decide (c ≤ 2 * r))) else awN q (if xr a b c then decide (c < 2 * r) else decide (c ≤ 2 * r))) (xr a b c) hd hr0 hr1 (by
      cases xr a b c
      · left
        refine ⟨rfl, rfl, ?_⟩
        by_cases h : c ≤ 2 * r
        · right; exact ⟨by simp [awN, h], h⟩
        · left; exact ⟨by simp [awN, h], by omega⟩
      · right
        refine ⟨rfl, ?_, ?_⟩
        · by_cases h : 0 < r
          · right; exact ⟨by simp [h], h⟩
          · left; exact ⟨by simp [h], by omega⟩
        · by_cases h : c < 2 * r
          · right; exact ⟨by simp [awN, h]; omega, h⟩
          · left; exact ⟨by simp [awN, h], by omega⟩)
  obtain ⟨k1, k2, k3, k4, k5, k6⟩ := hcore
  exact ⟨rfl, aB _, aB _, hok, k1, k2, k3, k4, k5, k6, by split <;> omega, by split <;> omega⟩

theorem trunc_turn (a b c : Int) : awV (mag a * mag b / mag c) (xr a b c) false = -awV (mag (-a) * mag b / mag c) (xr (-a) b c) false := by
  have hm : mag (-a) = mag a := by unfold mag; omega
  rw [hm]
  by_cases h : a = 0
  · subst h
    have h0 : mag 0 = 0 := rfl
    rw [h0, Int.zero_mul, Int.zero_ediv]
    unfold awV awB awN
    cases xr 0 b c <;> cases xr (-0) b c <;> simp
  · have hx : xr (-a) b c = !xr a b c := by
      unfold xr
      by_cases h1 : a < 0
      · have h2 : ¬ -a < 0 := by omega
        simp only [h1, h2, decide_true, decide_false]
        cases decide (b < 0) <;> cases decide (c < 0) <;> rfl
      · have h2 : -a < 0 := by omega
        simp only [h1, h2, decide_true, decide_false]
        cases decide (b < 0) <;> cases decide (c < 0) <;> rfl
    rw [hx]
    unfold awV
    cases xr a b c <;> cases awB (mag a * mag b / mag c) false <;> simp

set_option maxHeartbeats 4000000 in
theorem law_WideLeft (a b c : Int) (w : World) : Calls Try.prog 6 #[.int .i64 a, .int .i64 b, .int .i64 c] w fun e w' => e = .returned (.bool true) ∧ Below w.heap.size w w' := by
  by_cases h : -1000000 < a ∧ a < 1000000 ∧ -1000000 < b ∧ b < 1000000 ∧ 1 ≤ c ∧ c < 1000000
  · obtain ⟨a1, a2, b1, b2, c1, c2⟩ := h
    obtain ⟨p1, p2, p3, p4, k1, k2, k3, k4, k5, k6, k7, k8⟩ := left_plain a b c a1 a2 b1 b2 c1 c2
    have hm : mag (-a) = mag a := by unfold mag; omega
    have F := Lib.hid (fun v => floor_any a b c v (by omega) (by omega) (by omega) (by omega) (by omega) (by omega))
    have Nr := Lib.hid (fun v => near_yes a b c v (by omega) (by omega) (by omega) (by omega) (by omega) (by omega) p4)
    have Tr := Lib.hid (fun v => trunc_yes a b c v (by omega) (by omega) (by omega) (by omega) (by omega) (by omega) p4)
    have Tu := Lib.hid (fun v => trunc_yes (-a) b c v (by omega) (by omega) (by omega) (by omega) (by omega) (by omega) (by rw [hm]; exact p4))
    have tt := trunc_turn a b c
    have p3' : awB (mag (-a) * mag b / mag c) false = true := by rw [hm]; exact p3
    have tb : -1099511627775 ≤ awV (mag (-a) * mag b / mag c) (xr (-a) b c) false ∧ awV (mag (-a) * mag b / mag c) (xr (-a) b c) false ≤ 1099511627775 := by
      have h0 : 0 ≤ mag (-a) * mag b / mag c := Int.ediv_nonneg (Int.mul_nonneg (by unfold mag; omega) (by unfold mag; omega)) (by unfold mag; omega)
      have h1 := p3'
      unfold awV awB awN at *
      simp at h1
      cases xr (-a) b c <;> simp [h1] <;> omega
    rw [p1] at F
    rw [p2] at Nr
    rw [p3] at Tr
    rw [p3'] at Tu
    rw [tt] at Tr
    generalize flV a b c = f at *
    generalize awV (mag a * mag b / mag c) (xr a b c) (nrS a b c) = n at *
    generalize awV (mag (-a) * mag b / mag c) (xr (-a) b c) false = u at *
    clear tt p1 p2 p3 p3' p4 hm
    go_enter Try.func6, Try.ntmps6
    go_wp2_with fail
    refine (F.out _).mono ?_
    rintro e w1 ⟨rfl, hb1⟩
    go_wp2_with fail
    refine (Nr.out _).mono ?_
    rintro e w2 ⟨rfl, hb2⟩
    go_wp2_with fail
    refine (Tr.out _).mono ?_
    rintro e w3 ⟨rfl, hb3⟩
    go_wp2_with fail
    refine (Tu.out _).mono ?_
    rintro e w4 ⟨rfl, hb4⟩
    have hbw : Below w.heap.size w w4 := ((hb1.trans (hb2.mono hb1.size)).trans (hb3.mono (Nat.le_trans hb1.size hb2.size))).trans (hb4.mono (Nat.le_trans (Nat.le_trans hb1.size hb2.size) hb3.size))
    clear hb1 hb2 hb3 hb4
    have d1 : decide (0 ≤ a * b - f * c) = true := decide_eq_true k1
    have d2 : decide (a * b - f * c < c) = true := decide_eq_true k2
    have d3 : decide (f ≤ n) = true := decide_eq_true k3
    have d4 : decide (n - f ≤ 1) = true := decide_eq_true k4
    have d5 : decide (2 * (a * b - n * c) < c) = true := decide_eq_true k5
    have d6 : decide (-c ≤ 2 * (a * b - n * c)) = true := decide_eq_true k6
    go_wp2_with (go_at_call 15; refine (lives02 _).mono ?_; rintro e w1 ⟨rfl, hlv⟩)
    go_ret
    exact ⟨rfl, hbw.trans (hlv.mono hbw.size)⟩
  · go_enter Try.func6, Try.ntmps6
    go_wp2_with (go_at_call 15; refine (lives02 _).mono ?_; rintro e w1 ⟨rfl, hlv⟩)
    all_goals
      go_ret
      exact ⟨rfl, hlv⟩
end Go.Proofs.Ytehdncjojfjmpaa
