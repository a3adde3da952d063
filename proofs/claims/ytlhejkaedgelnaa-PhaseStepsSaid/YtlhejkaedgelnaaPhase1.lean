/- Plain: the phases of a flight, one step of a follower. -/
import Derived.Test.YtlhejkaedgelnaaBase
namespace Go.Proofs.Ytlhejkaedgelnaa
open Go.ChangeShapes Go.WideShapes Go.ChangeAt Go.RowKit
set_option linter.unusedVariables false

/-- What a sample asks for in a phase. -/
def phA (p c h r : Int) : Int :=
  if p = 0 then (if 4000 ≤ c then 1 else 0)
  else if p = 1 then (if 50000 < h then 2 else if h ≤ 5000 ∧ c < 4000 then 0 else 1)
  else if p = 2 then (if -250 < r ∧ r < 250 then 3 else if r ≤ -500 then 4 else 2)
  else if p = 3 then (if 500 ≤ r then 2 else if r ≤ -500 then 4 else 3)
  else if p = 4 then (if h < 50000 then 5 else if -250 < r ∧ r < 250 then 3 else if 500 ≤ r then 2 else 4)
  else if p = 5 then (if h ≤ 5000 ∧ c < 4000 then 0 else if 60000 < h then 2 else 5)
  else p
theorem phA_bd {p : Int} (h0 : 0 ≤ p) (h5 : p ≤ 5) (c h r : Int) : 0 ≤ phA p c h r ∧ phA p c h r ≤ 5 := by
  unfold phA
  repeat' split
  all_goals omega
/-- Whether it comes at once. -/
def phQ (a b : Int) : Bool := decide (0 ≤ a ∧ a ≤ 5 ∧ 0 ≤ b ∧ b ≤ 5 ∧ a ≠ b ∧ (b = 0 ∨ b = 1 ∨ b = 5 ∨ (b = 2 ∧ (a = 1 ∨ a = 5))))
structure PhS where
  p : Int
  a : Int
  n : Int
  T : Nat → Int
  hv : Int
  hk : Bool
  lg : Int
def upd (T : Nat → Int) (k : Nat) (x : Int) : Nat → Int := fun i => if i = k then x else T i
def phN (S : PhS) (k : Int) : Int := if k = S.p then 0 else if k = S.a then S.n + 1 else 1
def phG (pt : Int) (S : PhS) (k : Int) : Bool := decide (k ≠ S.p ∧ (phQ S.p k = true ∨ pt ≤ phN S k))
def phP (pt : Int) (S : PhS) (k : Int) : Int := if phG pt S k = true then k else S.p
def phZ (pt : Int) (S : PhS) (k h : Int) : PhS :=
  ⟨phP pt S k, k, if phG pt S k = true then 0 else phN S k, upd S.T (phP pt S k).toNat (S.T (phP pt S k).toNat + 1),
   if phP pt S k = 0 then S.hv else if S.hk = true ∧ h ≤ S.hv then S.hv else h, S.hk || decide (phP pt S k ≠ 0),
   if phG pt S k = true ∧ S.p = 5 ∧ k = 0 then S.lg + 1 else S.lg⟩
def phStep (pt : Int) (S : PhS) (c h r : Int) : PhS := phZ pt S (phA S.p c h r) h
def phO : PhS := ⟨0, 0, 0, fun _ => 0, 0, false, 0⟩
/-- A state as it may be behind m samples. -/
structure PhOk (pt : Int) (m : Int) (S : PhS) : Prop where
  m0 : 0 ≤ m
  pt1 : 1 ≤ pt
  pt2 : pt ≤ 1000
  p0 : 0 ≤ S.p
  p5 : S.p ≤ 5
  a0 : 0 ≤ S.a
  a5 : S.a ≤ 5
  n0 : 0 ≤ S.n
  n1 : S.n < pt
  t0 : ∀ i, 0 ≤ S.T i
  t1 : ∀ i, S.T i ≤ m
  l0 : 0 ≤ S.lg
  l1 : S.lg ≤ m
theorem phO_ok {pt : Int} (h1 : 1 ≤ pt) (h2 : pt ≤ 1000) : PhOk pt 0 phO := by
  exact ⟨by omega, h1, h2, by decide, by decide, by decide, by decide, by decide, by show (0 : Int) < pt; omega, fun _ => Int.le_refl 0, fun _ => Int.le_refl 0, by decide, by decide⟩
theorem phP_bd {pt : Int} {S : PhS} {m : Int} (h : PhOk pt m S) {k : Int} (k0 : 0 ≤ k) (k5 : k ≤ 5) : 0 ≤ phP pt S k ∧ phP pt S k ≤ 5 := by
  have := h.p0
  have := h.p5
  unfold phP
  split <;> omega
theorem phN_bd {pt : Int} {S : PhS} {m : Int} (h : PhOk pt m S) (k : Int) : 0 ≤ phN S k ∧ phN S k ≤ pt := by
  have := h.n0
  have := h.n1
  have := h.pt1
  unfold phN
  repeat' split
  all_goals omega
theorem phZ_ok {pt : Int} {S : PhS} {m : Int} (h : PhOk pt m S) {k : Int} (k0 : 0 ≤ k) (k5 : k ≤ 5) (x : Int) : PhOk pt (m + 1) (phZ pt S k x) := by
  have hp := phP_bd h k0 k5
  have hn := phN_bd h k
  have q0 := h.m0
  have q1 := h.pt1
  have q2 := h.pt2
  have q3 := h.l0
  have q4 := h.l1
  refine ⟨by omega, q1, q2, hp.1, hp.2, k0, k5, ?_, ?_, fun i => ?_, fun i => ?_, ?_, ?_⟩
  · show 0 ≤ if phG pt S k = true then 0 else phN S k
    split <;> omega
  · show (if phG pt S k = true then 0 else phN S k) < pt
    split
    · omega
    · rename_i hg
      simp only [phG, decide_eq_true_eq, not_and, not_or] at hg
      by_cases hk : k = S.p
      · unfold phN
        rw [if_pos hk]
        omega
      · have := (hg hk).2
        omega
  · show 0 ≤ upd S.T _ _ i
    have := h.t0 i
    have := h.t0 (phP pt S k).toNat
    unfold upd
    split <;> omega
  · show upd S.T _ _ i ≤ m + 1
    have := h.t1 i
    have := h.t1 (phP pt S k).toNat
    unfold upd
    split <;> omega
  · show 0 ≤ if phG pt S k = true ∧ S.p = 5 ∧ k = 0 then S.lg + 1 else S.lg
    split <;> omega
  · show (if phG pt S k = true ∧ S.p = 5 ∧ k = 0 then S.lg + 1 else S.lg) ≤ m + 1
    split <;> omega
theorem phStep_ok {pt : Int} {S : PhS} {m : Int} (h : PhOk pt m S) (c x r : Int) : PhOk pt (m + 1) (phStep pt S c x r) := by
  have := phA_bd h.p0 h.p5 c x r
  exact phZ_ok h this.1 this.2 x
/-- The document's follower counts on where nothing is asked for: its number is one's own wherever it matters. -/
def phRn (S : PhS) (N k : Int) : Int := (if k = S.a then N else 0) + 1
def phRz (pt : Int) (S : PhS) (N k : Int) : Int := if phG pt S k = true then 0 else phRn S N k
theorem phR_n {S : PhS} {N k : Int} (h : S.a ≠ S.p → N = S.n) (hk : k ≠ S.p) : phRn S N k = phN S k := by
  unfold phRn phN
  rw [if_neg hk]
  by_cases ha : k = S.a
  · rw [if_pos ha, if_pos ha, h (by rw [← ha]; exact hk)]
  · rw [if_neg ha, if_neg ha]; omega
theorem phR_z {pt : Int} {S : PhS} {N k x : Int} (h : S.a ≠ S.p → N = S.n) : (phZ pt S k x).a ≠ (phZ pt S k x).p → phRz pt S N k = (phZ pt S k x).n := by
  show k ≠ phP pt S k → phRz pt S N k = if phG pt S k = true then 0 else phN S k
  unfold phP phRz
  by_cases hg : phG pt S k = true
  · rw [if_pos hg]; intro h'; exact absurd rfl h'
  · rw [if_neg hg, if_neg hg, if_neg hg]
    intro hk
    exact phR_n h hk
theorem phRn_bd {S : PhS} {N k m : Int} (h0 : 0 ≤ N) (h1 : N ≤ m) : 0 ≤ phRn S N k ∧ phRn S N k ≤ m + 1 := by
  unfold phRn; split <;> omega
theorem phRz_bd {pt : Int} {S : PhS} {N k m : Int} (h0 : 0 ≤ N) (h1 : N ≤ m) : 0 ≤ phRz pt S N k ∧ phRz pt S N k ≤ m + 1 := by
  have := phRn_bd (S := S) (k := k) h0 h1
  unfold phRz; split <;> omega
/-- All samples together. -/
def phSum (T : Nat → Int) : Int := T 0 + T 1 + T 2 + T 3 + T 4 + T 5
theorem phSum_upd (T : Nat → Int) {k : Nat} (hk : k ≤ 5) : phSum (upd T k (T k + 1)) = phSum T + 1 := by
  unfold phSum upd
  rcases (show k = 0 ∨ k = 1 ∨ k = 2 ∨ k = 3 ∨ k = 4 ∨ k = 5 by omega) with rfl | rfl | rfl | rfl | rfl | rfl <;> simp <;> omega
theorem phStep_sum {pt : Int} {S : PhS} {m : Int} (h : PhOk pt m S) (c x r : Int) : phSum (phStep pt S c x r).T = phSum S.T + 1 := by
  have hb := phA_bd h.p0 h.p5 c x r
  have := phP_bd h hb.1 hb.2
  exact phSum_upd _ (by omega)
/-- From the ground to a takeoff alone, to the ground from a takeoff or a landing alone. -/
theorem phStep_p {pt : Int} {S : PhS} {m : Int} (h : PhOk pt m S) (c x r : Int) : ∃ q, (phStep pt S c x r).p = q ∧ 0 ≤ q ∧ q ≤ 5 ∧ (S.p = 0 → q = 0 ∨ q = 1) ∧ (q = 0 → S.p = 0 ∨ S.p = 1 ∨ S.p = 5) ∧
    (phStep pt S c x r).lg + (if q = 0 then 0 else 1) ≤ S.lg + (if S.p = 0 then 0 else 1) + (if S.p = 0 ∧ q = 1 then 1 else 0) := by
  have hb := phA_bd h.p0 h.p5 c x r
  have hp := phP_bd h hb.1 hb.2
  have h0 := h.p0
  have h5 := h.p5
  have hA : (S.p = 0 → phA S.p c x r = 0 ∨ phA S.p c x r = 1) ∧ (phA S.p c x r = 0 → S.p = 0 ∨ S.p = 1 ∨ S.p = 5) := by
    unfold phA
    refine ⟨fun e => ?_, fun e => ?_⟩
    · rw [if_pos e]; split <;> omega
    · revert e
      repeat' split
      all_goals omega
  refine ⟨_, rfl, hp.1, hp.2, ?_⟩
  show (S.p = 0 → phP pt S (phA S.p c x r) = 0 ∨ phP pt S (phA S.p c x r) = 1) ∧ (phP pt S (phA S.p c x r) = 0 → S.p = 0 ∨ S.p = 1 ∨ S.p = 5) ∧
    (if phG pt S (phA S.p c x r) = true ∧ S.p = 5 ∧ phA S.p c x r = 0 then S.lg + 1 else S.lg) + (if phP pt S (phA S.p c x r) = 0 then 0 else 1) ≤ S.lg + (if S.p = 0 then 0 else 1) + (if S.p = 0 ∧ phP pt S (phA S.p c x r) = 1 then 1 else 0)
  generalize phA S.p c x r = k at *
  unfold phP
  cases hg : phG pt S k
  · simp
    by_cases e : S.p = 0 <;> simp [e] <;> omega
  · simp
    refine ⟨hA.1, hA.2, ?_⟩
    by_cases e0 : S.p = 0
    · rcases hA.1 e0 with e | e <;> simp [e0, e]
    · by_cases e5 : S.p = 5 <;> by_cases ek : k = 0 <;> simp [e0, e5, ek] <;> omega
/-- How many phases lie between a phase and the one in which a sample asks for no other. -/
def phK (p c h r : Int) : Int :=
  if phA p c h r = p then 0 else if phA (phA p c h r) c h r = phA p c h r then 1 else if phA (phA (phA p c h r) c h r) c h r = phA (phA p c h r) c h r then 2 else 3
theorem phK_step {p : Int} (h0 : 0 ≤ p) (h5 : p ≤ 5) (c h r : Int) (hne : phA p c h r ≠ p) : phK (phA p c h r) c h r + 1 ≤ phK p c h r := by
  have h3 : phA (phA (phA (phA p c h r) c h r) c h r) c h r = phA (phA (phA p c h r) c h r) c h r := by
    rcases (show p = 0 ∨ p = 1 ∨ p = 2 ∨ p = 3 ∨ p = 4 ∨ p = 5 by omega) with rfl | rfl | rfl | rfl | rfl | rfl
    all_goals
      by_cases g1 : 4000 ≤ c <;> by_cases g2 : 50000 < h <;> by_cases g3 : h ≤ 5000 <;> by_cases g4 : -250 < r <;> by_cases g5 : r < 250 <;> by_cases g6 : r ≤ -500 <;> by_cases g7 : 500 ≤ r <;> by_cases g8 : h < 50000 <;> by_cases g9 : 60000 < h
      all_goals first
        | (exfalso; omega)
        | (have g0 : c < 4000 ↔ ¬ 4000 ≤ c := by omega
           simp [phA, g0, g1, g2, g3, g4, g5, g6, g7, g8, g9])
  unfold phK
  rw [if_neg hne]
  repeat' split
  all_goals first | omega | (exfalso; simp_all; done)
theorem phK_bd (p c h r : Int) : 0 ≤ phK p c h r ∧ phK p c h r ≤ 3 := by
  unfold phK
  repeat' split
  all_goals omega
/-- How many steps of one sample it is yet, at most. -/
def phM (pt : Int) (S : PhS) (c h r : Int) : Int := phK S.p c h r * pt - (if phA S.p c h r ≠ S.p ∧ S.a = phA S.p c h r then S.n else 0)
theorem phM_step {pt : Int} {S : PhS} {m : Int} (H : PhOk pt m S) (c h r : Int) : (phM pt S c h r ≤ 0 → phA S.p c h r = S.p) ∧ (phA S.p c h r = S.p → (phStep pt S c h r).p = S.p) ∧
    (phA S.p c h r ≠ S.p → phM pt (phStep pt S c h r) c h r + 1 ≤ phM pt S c h r) := by
  have hn0 := H.n0
  have hn1 := H.n1
  have hp1 := H.pt1
  have kb := phK_bd S.p c h r
  refine ⟨fun hm => ?_, fun he => ?_, fun hne => ?_⟩
  · by_cases he : phA S.p c h r = S.p
    · exact he
    · exfalso
      have hk : 1 ≤ phK S.p c h r := by
        unfold phK
        rw [if_neg he]
        repeat' split
        all_goals omega
      have hm2 : 1 * pt ≤ phK S.p c h r * pt := Int.mul_le_mul_of_nonneg_right hk (by omega)
      unfold phM at hm
      split at hm <;> omega
  · show phP pt S (phA S.p c h r) = S.p
    unfold phP
    split
    · exact he
    · rfl
  · have hs := phK_step H.p0 H.p5 c h r hne
    have hm2 : (phK (phA S.p c h r) c h r + 1) * pt ≤ phK S.p c h r * pt := Int.mul_le_mul_of_nonneg_right hs (by omega)
    have hm3 : (phK (phA S.p c h r) c h r + 1) * pt = phK (phA S.p c h r) c h r * pt + pt := by rw [Int.add_mul, Int.one_mul]
    cases hg : phG pt S (phA S.p c h r)
    · have e1 : (phStep pt S c h r).p = S.p := by show phP pt S (phA S.p c h r) = S.p; unfold phP; rw [hg]; rfl
      have e2 : (phStep pt S c h r).a = phA S.p c h r := rfl
      have e3 : (phStep pt S c h r).n = phN S (phA S.p c h r) := by show (if phG pt S (phA S.p c h r) = true then 0 else _) = _; rw [hg]; rfl
      unfold phM
      rw [e1, e2, e3, if_pos ⟨hne, rfl⟩]
      unfold phN
      rw [if_neg hne]
      by_cases ea : phA S.p c h r = S.a
      · rw [if_pos ea, if_pos ⟨hne, ea.symm⟩]; omega
      · rw [if_neg ea, if_neg (fun h => ea h.2.symm)]; omega
    · have e1 : (phStep pt S c h r).p = phA S.p c h r := by show phP pt S (phA S.p c h r) = _; unfold phP; rw [hg]; rfl
      have e3 : (phStep pt S c h r).n = 0 := by show (if phG pt S (phA S.p c h r) = true then 0 else _) = _; rw [hg]; rfl
      unfold phM
      rw [e1, e3]
      generalize phK (phA S.p c h r) c h r * pt = X at *
      generalize phK S.p c h r * pt = Y at *
      have l1 : (if phA (phA S.p c h r) c h r ≠ phA S.p c h r ∧ (phStep pt S c h r).a = phA (phA S.p c h r) c h r then (0:Int) else 0) = 0 := by split <;> rfl
      rw [l1]
      split <;> omega
theorem phM_top {pt : Int} {S : PhS} {m : Int} (H : PhOk pt m S) (c h r : Int) : phM pt S c h r ≤ 3 * pt := by
  have kb := phK_bd S.p c h r
  have hp1 := H.pt1
  have hn0 := H.n0
  have : phK S.p c h r * pt ≤ 3 * pt := Int.mul_le_mul_of_nonneg_right kb.2 (by omega)
  unfold phM
  split <;> omega
end Go.Proofs.Ytlhejkaedgelnaa
