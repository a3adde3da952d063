/- Package bus: who sends all that is due; plain. -/
import Derived.Test.YtcpmdgbogdikiaaBus11
namespace Go.Proofs.Ytcpmdgbogdikiaa
open Go.ChangeShapes Go.WideShapes Go.ChangeAt Go.RowKit
set_option linter.unusedVariables false
set_option linter.unusedSimpArgs false
theorem duL_mem {P F : Nat → Int} {t : Int} {n i : Nat} : i ∈ duL P F t n ↔ i < n ∧ dtB (P i) (F i) t = true := by
  unfold duL
  rw [List.mem_filter, List.mem_range]
theorem duL_count (P F : Nat → Int) (t : Int) (i : Nat) : ∀ n, (duL P F t n).count i = if i < n ∧ dtB (P i) (F i) t = true then 1 else 0
  | 0 => by rw [if_neg (by omega)]; rfl
  | n + 1 => by
    have ih := duL_count P F t i n
    cases d : dtB (P n) (F n) t with
    | true =>
      rw [duL_yes d, List.count_append, ih]
      by_cases z : n = i
      · subst z
        rw [if_neg (by omega), if_pos ⟨by omega, d⟩]; simp
      · have e : List.count i [n] = 0 := by simp [List.count_cons, z]
        rw [e]
        by_cases y : i < n ∧ dtB (P i) (F i) t = true
        · rw [if_pos y, if_pos ⟨by omega, y.2⟩]
        · rw [if_neg y, if_neg (fun h => y ⟨by omega, h.2⟩)]
    | false =>
      rw [duL_no d, ih]
      by_cases y : i < n ∧ dtB (P i) (F i) t = true
      · rw [if_pos y, if_pos ⟨by omega, y.2⟩]
      · rw [if_neg y, if_neg (fun h => y ⟨by
          by_cases z : i = n
          · subst z; rw [d] at h; cases h.2
          · omega, h.2⟩)]
/-- In how many of m ticks from f on it is due. -/
def onN (p f : Int) : Nat → Nat
  | 0 => 0
  | m + 1 => onN p f m + if (f + m) % p = 0 then 1 else 0
theorem onN_le (p f : Int) : ∀ m, onN p f m ≤ m
  | 0 => Nat.le_refl _
  | m + 1 => by
    have := onN_le p f m
    unfold onN
    split <;> omega
theorem onN_is {p f : Int} (hp : 1 ≤ p) (s : Int) (h0 : 0 ≤ s) (h1 : s < p) : (f + s) % p = 0 ↔ s = (if f % p = 0 then 0 else p - f % p) := by
  have r0 := Int.emod_nonneg f (show p ≠ 0 by omega)
  have r1 := Int.emod_lt_of_pos f (show 0 < p by omega)
  rw [← Int.emod_add_emod f p s]
  by_cases z : f % p + s < p
  · rw [Int.emod_eq_of_lt (by omega) z]
    split <;> omega
  · have e : (f % p + s) % p = f % p + s - p := by
      rw [← Int.sub_emod_right, Int.emod_eq_of_lt (by omega) (by omega)]
    rw [e]
    split <;> omega
theorem onN_one {p f : Int} (hp : 1 ≤ p) : ∀ m : Nat, (m : Int) ≤ p → onN p f m = if (if f % p = 0 then 0 else p - f % p) < (m : Int) then 1 else 0
  | 0, h => by
    have r0 := Int.emod_nonneg f (show p ≠ 0 by omega)
    have r1 := Int.emod_lt_of_pos f (show 0 < p by omega)
    rw [if_neg]
    · rfl
    · split <;> omega
  | m + 1, h => by
    have ih := onN_one (f := f) hp m (by omega)
    have i := onN_is (f := f) hp (m : Int) (by omega) (by omega)
    unfold onN
    rw [ih]
    generalize (if f % p = 0 then 0 else p - f % p) = s at *
    by_cases z : (f + (m : Int)) % p = 0
    · have := i.1 z
      rw [if_pos z, if_neg (by omega), if_pos (by omega)]
    · have : (m : Int) ≠ s := fun e => z (i.2 e)
      rw [if_neg z]
      by_cases y : s < (m : Int)
      · rw [if_pos y, if_pos (by omega)]
      · rw [if_neg y, if_neg (by omega)]
theorem onN_all {p f : Int} (hp : 1 ≤ p) : onN p f p.toNat = 1 := by
  have r0 := Int.emod_nonneg f (show p ≠ 0 by omega)
  have r1 := Int.emod_lt_of_pos f (show 0 < p by omega)
  rw [onN_one hp p.toNat (by omega), if_pos]
  split <;> omega
theorem dtB_at {P F f : Int} (h : 0 ≤ f) : dtB P F (f + F) = decide (f % P = 0) := by
  unfold dtB
  rw [show f + F - F = f by omega]
  by_cases z : f % P = 0
  · rw [decide_eq_true z, decide_eq_true ⟨by omega, z⟩]
  · rw [decide_eq_false z, decide_eq_false (fun h => z h.2)]
/-- The word of a number, with odd parity. -/
def xwI (y : Int) : Int := if onI y 40 % 2 = 0 then y + 2147483648 else y
theorem xwI_ok {y : Int} (h0 : 0 ≤ y) (h1 : y ≤ 255) : xwI y % 256 = y ∧ odB (xwI y) = true ∧ 0 ≤ xwI y ∧ xwI y ≤ 4294967295 := by
  unfold xwI odB
  by_cases z : onI y 40 % 2 = 0
  · rw [if_pos z]
    refine ⟨by omega, ?_, by omega, by omega⟩
    rw [onI_flip h0 (by omega)]
    exact decide_eq_true (by omega)
  · rw [if_neg z]
    refine ⟨by omega, ?_, by omega, by omega⟩
    exact decide_eq_true (by omega)
theorem st1_full {N P F : Nat → Int} {n : Nat} (hr : rtB n N P F = true) (c : Int) (s : WS) {d : Nat} (hd : d < n) : st1 N n c s (xwI (N d)) = ⟨fun i => if i = d then xwI (N d) else s.W i, fun i => if i = d then true else s.K i, fun i => if i = d then c else s.T i, s.m⟩ := by
  have h := (of_decide_eq_true hr).2.2
  have hs := of_decide_eq_true (h d hd).1
  obtain ⟨x1, x2, -, -⟩ := xwI_ok hs.1 hs.2.1
  unfold st1
  rw [x1, fdJ_some hd rfl (h d hd).2]
  show (if odB (xwI (N d)) = true then _ else _ : WS) = _
  rw [if_pos x2]
theorem fold_full {N P F : Nat → Int} {n : Nat} (hr : rtB n N P F = true) (c : Int) : ∀ (D : List Nat) (s : WS), (∀ d ∈ D, d < n) → ((D.map fun i => xwI (N i)).foldl (st1 N n c) s).m = s.m ∧ ∀ i, ((D.map fun i => xwI (N i)).foldl (st1 N n c) s).T i = if i ∈ D then c else s.T i
  | [], s, h => ⟨rfl, fun i => by rw [if_neg (by simp)]; rfl⟩
  | d :: D, s, h => by
    obtain ⟨h1, h2⟩ := fold_full hr c D (st1 N n c s (xwI (N d))) (fun x hx => h x (List.mem_cons_of_mem _ hx))
    have e := st1_full hr c s (h d (List.mem_cons_self ..))
    refine ⟨by show (List.foldl (st1 N n c) (st1 N n c s (xwI (N d))) (D.map fun i => xwI (N i))).m = s.m; rw [h1, e], fun i => ?_⟩
    show (List.foldl (st1 N n c) (st1 N n c s (xwI (N d))) (D.map fun i => xwI (N i))).T i = _
    rw [h2, e]
    show (if i ∈ D then c else if i = d then c else s.T i) = _
    by_cases z : i ∈ D
    · rw [if_pos z, if_pos (List.mem_cons_of_mem _ z)]
    · rw [if_neg z]
      by_cases y : i = d
      · subst y; rw [if_pos rfl, if_pos (List.mem_cons_self ..)]
      · rw [if_neg y, if_neg (by simp [z, y])]
/-- Each slot's last word came when it was last due. -/
def okT (n : Nat) (P F : Nat → Int) (c : Int) (T : Nat → Int) : Prop := ∀ i, i < n → (c ≤ F i ∧ T i = 0) ∨ (F i < c ∧ F i ≤ T i - 1 ∧ (T i - 1 - F i) % P i = 0 ∧ T i ≤ c ∧ c - T i < P i)
theorem okT_step {N P F : Nat → Int} {n : Nat} (hS : ∀ i, i < n → srB (N i) (P i) (F i) = true) {c : Int} {T T' : Nat → Int} (h : okT n P F c T) (e : ∀ i, i < n → T' i = if i ∈ duL P F c n then c + 1 else T i) : okT n P F (c + 1) T' := by
  intro i hi
  have hs := of_decide_eq_true (hS i hi)
  rw [e i hi]
  by_cases z : i ∈ duL P F c n
  · rw [if_pos z]
    have d := of_decide_eq_true (duL_mem.1 z).2
    exact .inr ⟨by omega, by omega, by rw [show c + 1 - 1 - F i = c - F i by omega]; exact d.2, by omega, by omega⟩
  · rw [if_neg z]
    have nd : ¬ (F i ≤ c ∧ (c - F i) % P i = 0) := fun q => z (duL_mem.2 ⟨hi, decide_eq_true q⟩)
    rcases h i hi with ⟨h1, h2⟩ | ⟨h1, h2, h3, h4, h5⟩
    · refine .inl ⟨?_, h2⟩
      by_cases y : c = F i
      · exact absurd ⟨by omega, by rw [y, Int.sub_self]; exact Int.zero_emod _⟩ nd
      · omega
    · refine .inr ⟨by omega, h2, h3, by omega, ?_⟩
      by_cases y : c + 1 - T i = P i
      · refine absurd ⟨by omega, ?_⟩ nd
        rw [show c - F i = (T i - 1 - F i) + P i by omega, Int.add_emod_right]
        exact h3
      · omega
theorem okT_ms {N P F : Nat → Int} {n : Nat} (hS : ∀ i, i < n → srB (N i) (P i) (F i) = true) {c : Int} {T : Nat → Int} (h : okT n P F c T) : ∀ k, k ≤ n → msL N P 2 c T k = []
  | 0, _ => rfl
  | k + 1, hk => by
    have hs := of_decide_eq_true (hS k (by omega))
    rw [msL, if_neg, okT_ms hS h k (by omega)]
    rcases h k (by omega) with q | q <;> omega
/-- What is known behind k ticks of it. -/
def fuN (N P F : Nat → Int) (n : Nat) : Nat → WS
  | 0 => ⟨fun _ => 0, fun _ => false, fun _ => 0, 0⟩
  | k + 1 => ((duL P F k n).map fun i => xwI (N i)).foldl (st1 N n ((k : Int) + 1)) ⟨(fuN N P F n k).W, (fuN N P F n k).K, (fuN N P F n k).T, 0⟩
theorem fuN_ok {N P F : Nat → Int} {n : Nat} (hr : rtB n N P F = true) : ∀ k : Nat, (fuN N P F n k).m = 0 ∧ okT n P F k (fuN N P F n k).T ∧ ∀ i, i < n → 0 ≤ (fuN N P F n k).T i ∧ (fuN N P F n k).T i ≤ k
  | 0 => by
    have hS := fun i hi => ((of_decide_eq_true hr).2.2 i hi).1
    refine ⟨rfl, fun i hi => .inl ⟨?_, rfl⟩, fun i hi => ⟨Int.le_refl 0, Int.le_refl 0⟩⟩
    have hs := of_decide_eq_true (hS i hi)
    show (0 : Int) ≤ F i
    omega
  | k + 1 => by
    have hS := fun i hi => ((of_decide_eq_true hr).2.2 i hi).1
    obtain ⟨-, h2, h3⟩ := fuN_ok hr k
    obtain ⟨f1, f2⟩ := fold_full hr ((k : Int) + 1) (duL P F k n) ⟨(fuN N P F n k).W, (fuN N P F n k).K, (fuN N P F n k).T, 0⟩ (fun d hd => (duL_mem.1 hd).1)
    have ok := okT_step hS (T' := (fuN N P F n (k + 1)).T) h2 (fun i hi => f2 i)
    have e : (((k + 1 : Nat)) : Int) = (k : Int) + 1 := by omega
    rw [e]
    refine ⟨f1, ok, fun i hi => ?_⟩
    have hs := of_decide_eq_true (hS i hi)
    rcases ok i hi with q | q <;> omega
end Go.Proofs.Ytcpmdgbogdikiaa
