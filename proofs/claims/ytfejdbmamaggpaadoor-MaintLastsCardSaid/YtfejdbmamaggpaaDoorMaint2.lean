/- How long modes lasted; plain. -/
import Derived.Test.YtfejdbmamaggpaaDoorMaint1
namespace Go.Proofs.YtfejdbmamaggpaaDoor
set_option linter.unusedVariables false
set_option linter.unusedSimpArgs false
/-- Which of the events are changes: those of the code that are reportable. -/
def gdB (T C A : Nat → Int) (c : Int) (i : Nat) : Bool := decide (C i = c) && rpB (T i) (C i) (A i)
def grL (T C A : Nat → Int) (c : Int) (n : Nat) : List Nat := (List.range n).filter (gdB T C A c)
theorem grL_yes {T C A : Nat → Int} {c : Int} {k : Nat} (h : gdB T C A c k = true) : grL T C A c (k + 1) = grL T C A c k ++ [k] := by
  unfold grL; rw [List.range_succ, List.filter_append]; simp [h]
theorem grL_no {T C A : Nat → Int} {c : Int} {k : Nat} (h : gdB T C A c k = false) : grL T C A c (k + 1) = grL T C A c k := by
  unfold grL; rw [List.range_succ, List.filter_append]; simp [h]
theorem grL_len (T C A : Nat → Int) (c : Int) (k : Nat) : (grL T C A c k).length ≤ k := by
  have := List.length_filter_le (gdB T C A c) (List.range k)
  simpa [grL] using this
theorem grL_get {T C A : Nat → Int} {c : Int} {i : Nat} (h : gdB T C A c i = true) : ∀ n, i < n → (grL T C A c n)[(grL T C A c i).length]? = some i ∧ (grL T C A c i).length < (grL T C A c n).length
  | 0, hn => by omega
  | n + 1, hn => by
    by_cases q : i = n
    · subst q
      rw [grL_yes h]
      simp
    · have ih := grL_get h n (by omega)
      cases d : gdB T C A c n with
      | true => rw [grL_yes d, List.getElem?_append_left ih.2, List.length_append]; exact ⟨ih.1, by omega⟩
      | false => rw [grL_no d]; exact ih
/-- How many changes there are among the first i; the event that the p-th of n is. -/
def cnt (T C A : Nat → Int) (c : Int) (i : Nat) : Nat := (grL T C A c i).length
def idx (T C A : Nat → Int) (c : Int) (N p : Nat) : Nat := (grL T C A c N).getD p 0
theorem cnt_yes {T C A : Nat → Int} {c : Int} {i : Nat} (h : gdB T C A c i = true) : cnt T C A c (i + 1) = cnt T C A c i + 1 := by unfold cnt; rw [grL_yes h, List.length_append]; rfl
theorem cnt_no {T C A : Nat → Int} {c : Int} {i : Nat} (h : gdB T C A c i = false) : cnt T C A c (i + 1) = cnt T C A c i := by unfold cnt; rw [grL_no h]
theorem idx_at {T C A : Nat → Int} {c : Int} {i N : Nat} (h : gdB T C A c i = true) (hi : i < N) : idx T C A c N (cnt T C A c i) = i := by
  unfold idx cnt
  rw [List.getD_eq_getElem?_getD, (grL_get h N hi).1]; rfl
theorem idx_good {T C A : Nat → Int} {c : Int} {N p : Nat} (hp : p < cnt T C A c N) : idx T C A c N p < N ∧ gdB T C A c (idx T C A c N p) = true := by
  unfold idx
  have hp : p < (grL T C A c N).length := hp
  rw [List.getD_eq_getElem?_getD, List.getElem?_eq_getElem hp]
  have hm : (grL T C A c N)[p] ∈ grL T C A c N := List.getElem_mem hp
  unfold grL at hm ⊢
  rw [List.mem_filter, List.mem_range] at hm
  exact hm
/-- Does the walk over the events break off at i? -/
def brB (T C A : Nat → Int) (c : Int) (i : Nat) : Bool := gdB T C A c i && decide (0 < cnt T C A c i) && decide (T i < T (idx T C A c i (cnt T C A c i - 1)))
theorem stop_ex (b : Nat → Bool) : ∀ n : Nat, ∃ N, N ≤ n ∧ (∀ k, k < N → b k = false) ∧ (N = n ∨ b N = true)
  | 0 => ⟨0, Nat.le_refl _, fun k h => by omega, .inl rfl⟩
  | n + 1 => by
    obtain ⟨N, h1, h2, h3⟩ := stop_ex b n
    by_cases q : N = n
    · cases hb : b n with
      | true => exact ⟨n, by omega, by rw [← q]; exact h2, .inr hb⟩
      | false => exact ⟨n + 1, Nat.le_refl _, fun k hk => by
          by_cases e : k = n
          · rw [e]; exact hb
          · exact h2 k (by omega), .inl rfl⟩
    · exact ⟨N, by omega, h2, .inr (h3.resolve_left q)⟩
/-- A smaller N sees the same places. -/
theorem idx_pre {T C A : Nat → Int} {c : Int} {N : Nat} : ∀ (d : Nat) {p : Nat}, p < cnt T C A c N → idx T C A c (N + d) p = idx T C A c N p
  | 0, p, hp => rfl
  | d + 1, p, hp => by
    have ih := idx_pre d hp
    unfold idx at ih ⊢
    have hp : p < (grL T C A c N).length := hp
    have hl : (grL T C A c N).length ≤ (grL T C A c (N + d)).length := by
      clear ih hp
      induction d with
      | zero => exact Nat.le_refl _
      | succ d ih =>
        cases g : gdB T C A c (N + d) with
        | true => rw [← Nat.add_assoc, grL_yes g, List.length_append]; omega
        | false => rw [← Nat.add_assoc, grL_no g]; exact ih
    rw [← ih]
    cases g : gdB T C A c (N + d) with
    | true => rw [← Nat.add_assoc, grL_yes g, List.getD_eq_getElem?_getD, List.getElem?_append_left (by omega), ← List.getD_eq_getElem?_getD]
    | false => rw [← Nat.add_assoc, grL_no g]
/-- For each mode: how many ticks it lasted, from the changes till the j-th one. -/
def lsY (t a : Nat → Int) : Nat → Int → Int
  | 0, _ => 0
  | 1, _ => 0
  | j + 2, m => lsY t a (j + 1) m + if m = a j then t (j + 1) - t j else 0
/-- The same by the other way: each change till what comes behind it. -/
def lsX (t a : Nat → Int) (q : Nat) (e : Int) : Nat → Int → Int
  | 0, _ => 0
  | k + 1, m => lsX t a q e k m + if m = a k then (if k + 1 < q then t (k + 1) else max e (t k)) - t k else 0
def lsZ (t a : Nat → Int) (q : Nat) (e : Int) (m : Int) : Int := lsY t a q m + if 0 < q ∧ m = a (q - 1) then max e (t (q - 1)) - t (q - 1) else 0
theorem lsX_Y {t a : Nat → Int} {q : Nat} {e m : Int} : ∀ k, k < q → lsX t a q e k m = lsY t a (k + 1) m
  | 0, _ => rfl
  | k + 1, h => by
    have ih := lsX_Y (t := t) (a := a) (q := q) (e := e) (m := m) k (by omega)
    rw [lsX, ih, lsY, if_pos h]
theorem lsX_Z (t a : Nat → Int) (q : Nat) (e m : Int) : lsX t a q e q m = lsZ t a q e m := by
  cases q with
  | zero => unfold lsZ; rw [if_neg (by omega)]; rfl
  | succ q =>
    rw [lsX, lsX_Y (q := q + 1) q (by omega), if_neg (show ¬ q + 1 < q + 1 by omega)]
    unfold lsZ
    rw [show q + 1 - 1 = q from rfl]
    by_cases z : m = a q
    · rw [if_pos z, if_pos ⟨by omega, z⟩]
    · rw [if_neg z, if_neg (fun h => z h.2)]
def sum6 (f : Int → Int) : Int := f 0 + f 1 + f 2 + f 3 + f 4 + f 5
theorem sum6_one {f : Int → Int} {x d : Int} (h : 0 ≤ x ∧ x < 6) : sum6 (fun m => f m + if m = x then d else 0) = sum6 f + d := by
  unfold sum6
  obtain rfl | rfl | rfl | rfl | rfl | rfl : x = 0 ∨ x = 1 ∨ x = 2 ∨ x = 3 ∨ x = 4 ∨ x = 5 := by omega
  all_goals simp; omega
theorem lsY_ok {t a : Nat → Int} {q : Nat} (ha : ∀ p, p < q → 0 ≤ a p ∧ a p < 6) (ht : ∀ p, p + 1 < q → t p ≤ t (p + 1)) : ∀ j, j < q → (∀ m, 0 ≤ lsY t a (j + 1) m ∧ lsY t a (j + 1) m ≤ t j - t 0) ∧ sum6 (lsY t a (j + 1)) = t j - t 0
  | 0, h => ⟨fun m => by rw [lsY]; omega, by unfold sum6; rw [lsY]; simp [lsY]⟩
  | j + 1, h => by
    obtain ⟨h1, h2⟩ := lsY_ok ha ht j (by omega)
    have hs := ht j h
    refine ⟨fun m => ?_, ?_⟩
    · have := h1 m
      rw [lsY]
      split <;> omega
    · have e : lsY t a (j + 1 + 1) = fun m => lsY t a (j + 1) m + if m = a j then t (j + 1) - t j else 0 := by funext m; rw [lsY]
      rw [e, sum6_one (ha j (by omega)), h2]
      omega
theorem lsZ_ok {t a : Nat → Int} {q : Nat} (e : Int) (ha : ∀ p, p < q → 0 ≤ a p ∧ a p < 6) (ht : ∀ p, p + 1 < q → t p ≤ t (p + 1)) (hq : 0 < q) : (∀ m, 0 ≤ lsZ t a q e m ∧ lsZ t a q e m ≤ max e (t (q - 1)) - t 0) ∧ sum6 (lsZ t a q e) = max e (t (q - 1)) - t 0 := by
  obtain ⟨h1, h2⟩ := lsY_ok ha ht (q - 1) (by omega)
  rw [show q - 1 + 1 = q by omega] at h1 h2
  have E : lsZ t a q e = fun m => lsY t a q m + if m = a (q - 1) then max e (t (q - 1)) - t (q - 1) else 0 := by
    funext m
    unfold lsZ
    by_cases z : m = a (q - 1)
    · rw [if_pos z, if_pos ⟨hq, z⟩]
    · rw [if_neg z, if_neg (fun h => z h.2)]
  refine ⟨fun m => ?_, ?_⟩
  · rw [E]
    have := h1 m
    show 0 ≤ lsY t a q m + _ ∧ lsY t a q m + _ ≤ _
    split <;> omega
  · rw [E, sum6_one (ha _ (by omega)), h2]; omega
end Go.Proofs.YtfejdbmamaggpaaDoor
