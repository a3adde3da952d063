/- Values that rise or fall, and their slope; the middle lies between the least and the greatest; plain. -/
import Derived.Test.YticecjjlafmclaaTrend12
namespace Go.Proofs.Yticecjjlafmclaa
open Go.ChangeShapes Go.WideShapes Go.ChangeAt Go.RowKit
set_option linter.unusedVariables false
set_option linter.unusedSimpArgs false
def upN (H : List Int) : Nat → Bool
  | 0 => true
  | k + 1 => upN H k && (decide (k = 0) || decide (H.getD (k - 1) 0 ≤ H.getD k 0))
def dnN (H : List Int) : Nat → Bool
  | 0 => true
  | k + 1 => dnN H k && (decide (k = 0) || decide (H.getD k 0 ≤ H.getD (k - 1) 0))
def loN (L : List Int) : Nat → Int
  | 0 => 100000000
  | k + 1 => min (loN L k) (L.getD k 0)
def hiN (L : List Int) : Nat → Int
  | 0 => -100000000
  | k + 1 => max (hiN L k) (L.getD k 0)
theorem upN_at {H : List Int} : ∀ {n}, upN H n = true → ∀ i, i + 1 < n → H.getD i 0 ≤ H.getD (i + 1) 0
  | 0, _, i, hi => absurd hi (by omega)
  | n + 1, h, i, hi => by
    have h' : (upN H n && (decide (n = 0) || decide (H.getD (n - 1) 0 ≤ H.getD n 0))) = true := h
    simp only [Bool.and_eq_true, Bool.or_eq_true, decide_eq_true_eq] at h'
    rcases (show i + 1 < n ∨ i + 1 = n by omega) with q | q
    · exact upN_at h'.1 i q
    · rcases h'.2 with c | c
      · omega
      · rw [← q] at c
        exact c
theorem dnN_at {H : List Int} : ∀ {n}, dnN H n = true → ∀ i, i + 1 < n → H.getD (i + 1) 0 ≤ H.getD i 0
  | 0, _, i, hi => absurd hi (by omega)
  | n + 1, h, i, hi => by
    have h' : (dnN H n && (decide (n = 0) || decide (H.getD n 0 ≤ H.getD (n - 1) 0))) = true := h
    simp only [Bool.and_eq_true, Bool.or_eq_true, decide_eq_true_eq] at h'
    rcases (show i + 1 < n ∨ i + 1 = n by omega) with q | q
    · exact dnN_at h'.1 i q
    · rcases h'.2 with c | c
      · omega
      · rw [← q] at c
        exact c
theorem loN_le {L : List Int} : ∀ {n i}, i < n → loN L n ≤ L.getD i 0
  | 0, i, h => absurd h (by omega)
  | n + 1, i, h => by
    show min (loN L n) (L.getD n 0) ≤ _
    rcases (show i < n ∨ i = n by omega) with q | q
    · have := loN_le (L := L) q; omega
    · subst q; omega
theorem hiN_le {L : List Int} : ∀ {n i}, i < n → L.getD i 0 ≤ hiN L n
  | 0, i, h => absurd h (by omega)
  | n + 1, i, h => by
    show _ ≤ max (hiN L n) (L.getD n 0)
    rcases (show i < n ∨ i = n by omega) with q | q
    · have := hiN_le (L := L) q; omega
    · subst q; omega
theorem tsY_le {L : List Int} {c : Int} : ∀ k, (∀ i, i < k → L.getD i 0 ≤ c) → tsY L k ≤ (k : Int) * c
  | 0, _ => by simp [tsY]
  | k + 1, h => by
    have ih := tsY_le k (fun i hi => h i (by omega))
    have e := h k (by omega)
    show tsY L k + L.getD k 0 ≤ _
    push_cast
    rw [Int.add_mul]
    omega
theorem tsY_ge {L : List Int} {c : Int} : ∀ k, (∀ i, i < k → c ≤ L.getD i 0) → (k : Int) * c ≤ tsY L k
  | 0, _ => by simp [tsY]
  | k + 1, h => by
    have ih := tsY_ge k (fun i hi => h i (by omega))
    have e := h k (by omega)
    show _ ≤ tsY L k + L.getD k 0
    push_cast
    rw [Int.add_mul]
    omega
theorem up_le {L : List Int} {n : Nat} (h : ∀ i, i + 1 < n → L.getD i 0 ≤ L.getD (i + 1) 0) (i : Nat) : ∀ d, i + d < n → L.getD i 0 ≤ L.getD (i + d) 0
  | 0, _ => Int.le_refl _
  | d + 1, hd => Int.le_trans (up_le h i d (by omega)) (h (i + d) (by omega))
theorem dn_le {L : List Int} {n : Nat} (h : ∀ i, i + 1 < n → L.getD (i + 1) 0 ≤ L.getD i 0) (i : Nat) : ∀ d, i + d < n → L.getD (i + d) 0 ≤ L.getD i 0
  | 0, _ => Int.le_refl _
  | d + 1, hd => Int.le_trans (h (i + d) (by omega)) (dn_le h i d (by omega))
theorem cheb_up {L : List Int} {n : Nat} (h : ∀ i, i + 1 < n → L.getD i 0 ≤ L.getD (i + 1) 0) : ∀ k, k ≤ n → 0 ≤ 2 * tsX L k - ((k : Int) - 1) * tsY L k
  | 0, _ => by simp [tsX, tsY]
  | k + 1, hk => by
    have ih := cheb_up h k (by omega)
    have u := tsY_le (L := L) (c := L.getD k 0) k (fun i hi => by have := up_le h i (k - i) (by omega); rwa [show i + (k - i) = k by omega] at this)
    show 0 ≤ 2 * (tsX L k + (k : Int) * L.getD k 0) - (((k + 1 : Nat) : Int) - 1) * (tsY L k + L.getD k 0)
    have e : 2 * (tsX L k + (k : Int) * L.getD k 0) - (((k + 1 : Nat) : Int) - 1) * (tsY L k + L.getD k 0) = (2 * tsX L k - ((k : Int) - 1) * tsY L k) + ((k : Int) * L.getD k 0 - tsY L k) := by
      push_cast
      grind
    rw [e]
    omega
theorem cheb_dn {L : List Int} {n : Nat} (h : ∀ i, i + 1 < n → L.getD (i + 1) 0 ≤ L.getD i 0) : ∀ k, k ≤ n → 2 * tsX L k - ((k : Int) - 1) * tsY L k ≤ 0
  | 0, _ => by simp [tsX, tsY]
  | k + 1, hk => by
    have ih := cheb_dn h k (by omega)
    have u := tsY_ge (L := L) (c := L.getD k 0) k (fun i hi => by have := dn_le h i (k - i) (by omega); rwa [show i + (k - i) = k by omega] at this)
    show 2 * (tsX L k + (k : Int) * L.getD k 0) - (((k + 1 : Nat) : Int) - 1) * (tsY L k + L.getD k 0) ≤ 0
    have e : 2 * (tsX L k + (k : Int) * L.getD k 0) - (((k + 1 : Nat) : Int) - 1) * (tsY L k + L.getD k 0) = (2 * tsX L k - ((k : Int) - 1) * tsY L k) + ((k : Int) * L.getD k 0 - tsY L k) := by
      push_cast
      grind
    rw [e]
    omega
theorem trS_den {L : List Int} (h2 : 2 ≤ L.length) : 0 < (L.length : Int) * ((L.length : Int) * (L.length : Int) - 1) := by
  have n2 : 2 ≤ (L.length : Int) := by omega
  have u1 := Int.mul_le_mul n2 n2 (by omega) (by omega)
  exact Int.mul_pos (by omega) (by omega)
theorem trS_up {L : List Int} (h2 : 2 ≤ L.length) (h : ∀ i, i + 1 < L.length → L.getD i 0 ≤ L.getD (i + 1) 0) : 0 ≤ trS L := by
  have c := cheb_up h L.length (Nat.le_refl _)
  have p := trS_den h2
  unfold trS
  have e : 12000 * tsX L L.length - 6000 * ((L.length : Int) - 1) * tsY L L.length = 6000 * (2 * tsX L L.length - ((L.length : Int) - 1) * tsY L L.length) := by grind
  rw [e]
  exact Int.ediv_nonneg (by omega) (by omega)
theorem trS_dn {L : List Int} (h2 : 2 ≤ L.length) (h : ∀ i, i + 1 < L.length → L.getD (i + 1) 0 ≤ L.getD i 0) : trS L ≤ 0 := by
  have c := cheb_dn h L.length (Nat.le_refl _)
  have p := trS_den h2
  unfold trS
  have e : 12000 * tsX L L.length - 6000 * ((L.length : Int) - 1) * tsY L L.length = 6000 * (2 * tsX L L.length - ((L.length : Int) - 1) * tsY L L.length) := by grind
  rw [e]
  generalize 2 * tsX L L.length - ((L.length : Int) - 1) * tsY L L.length = f at *
  generalize (L.length : Int) * ((L.length : Int) * (L.length : Int) - 1) = d at *
  have := Int.ediv_le_ediv p (show 6000 * f ≤ 0 by omega)
  simpa using this
theorem trM_between {L : List Int} (h2 : 2 ≤ L.length) : loN L L.length ≤ trM L ∧ trM L ≤ hiN L L.length := by
  have a := tsY_ge (L := L) (c := loN L L.length) L.length (fun i hi => loN_le hi)
  have b := tsY_le (L := L) (c := hiN L L.length) L.length (fun i hi => hiN_le hi)
  unfold trM
  have p : 0 < (L.length : Int) := by omega
  refine ⟨(Int.le_ediv_iff_mul_le p).2 (by rw [Int.mul_comm]; exact a), ?_⟩
  have := Int.ediv_le_ediv p b
  rwa [Int.mul_ediv_cancel_left _ (by omega)] at this
/-- The numbers that are kept of the first k. -/
def rsL (sz : Int) (H : List Int) (k : Nat) : List Int := ((H.take k).map trH).drop (k - sz.toNat)
theorem take_snoc16 {H : List Int} {k : Nat} (hk : k < H.length) : H.take (k + 1) = H.take k ++ [H.getD k 0] := by
  rw [List.take_add_one]
  simp [List.getD, List.getElem?_eq_getElem hk]
theorem rsL_succ {sz : Int} {H : List Int} {k : Nat} (hs : 2 ≤ sz) (hk : k < H.length) : trN sz (rsL sz H k) (H.getD k 0) = rsL sz H (k + 1) := by
  have l : ((H.take k).map trH).length = k := by simp; omega
  have := trN_last (sz := sz) (L := (H.take k).map trH) (H.getD k 0) hs
  rw [l] at this
  unfold rsL
  rw [this, take_snoc16 hk]
  simp
theorem rsL_len (sz : Int) (H : List Int) : (rsL sz H H.length).length = H.length - (H.length - sz.toNat) := by
  unfold rsL
  simp
theorem rsL_at (sz : Int) (H : List Int) {i : Nat} (hi : i < (rsL sz H H.length).length) : (rsL sz H H.length).getD i 0 = trH (H.getD (H.length - sz.toNat + i) 0) := by
  rw [rsL_len] at hi
  unfold rsL
  have e : H.length - sz.toNat + i < H.length := by omega
  simp [List.getD, List.getElem?_eq_getElem e]
theorem trH_mono {a b : Int} (h : a ≤ b) : trH a ≤ trH b := by unfold trH; omega
theorem rs_up {sz : Int} {H : List Int} (h2 : 2 ≤ (rsL sz H H.length).length) (u : upN H H.length = true) : 0 ≤ trS (rsL sz H H.length) :=
  trS_up h2 (fun i hi => by
    have l := rsL_len sz H
    rw [rsL_at sz H hi, rsL_at sz H (show i < _ by omega)]
    exact trH_mono (upN_at u (H.length - sz.toNat + i) (by omega)))
theorem rs_dn {sz : Int} {H : List Int} (h2 : 2 ≤ (rsL sz H H.length).length) (u : dnN H H.length = true) : trS (rsL sz H H.length) ≤ 0 :=
  trS_dn h2 (fun i hi => by
    have l := rsL_len sz H
    rw [rsL_at sz H hi, rsL_at sz H (show i < _ by omega)]
    exact trH_mono (dnN_at u (H.length - sz.toNat + i) (by omega)))
end Go.Proofs.Yticecjjlafmclaa
