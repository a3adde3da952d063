/- Package maint: what is told is read: the plain facts. -/
import Derived.Test.YtfejdbmamaggpaaDoorMaint1
import Derived.Lib.AtoiTie
import Derived.Lib.IndexMore
import Derived.Lib.ItoaNum
import Derived.Lib.Strings
namespace Go.Proofs.YtfejdbmamaggpaaDoor
set_option linter.unusedVariables false
set_option linter.unusedSimpArgs false
def mdN : Nat → ByteArray
  | 0 => ⟨#[119, 97, 114, 109, 105, 110, 103]⟩
  | 1 => ⟨#[100, 117, 97, 108]⟩
  | 2 => ⟨#[111, 110, 108, 121, 49]⟩
  | 3 => ⟨#[111, 110, 108, 121, 50]⟩
  | 4 => ⟨#[115, 121, 110, 116, 104, 101, 116, 105, 99]⟩
  | 5 => ⟨#[108, 111, 115, 116]⟩
  | _ => ⟨#[]⟩
/-- The name of a code. -/
def nmS (c : Int) : ByteArray := if c = 1 then mN 0 else if c = 2 then mN 1 else if c = 3 then mN 2 else if c = 4 then mN 3 else if c = 9 then mN 4 else if c = 10 then mN 5 else mN 6
theorem nmS_of {k : Nat} (h : k < 7) : nmS (mC k) = mN k := by
  have : ∀ k, k < 7 → nmS (mC k) = mN k := by decide +kernel
  exact this k h
def lnX (t c : Int) : ByteArray := ⟨#[116]⟩ ++ ⟨(Lib.itoa t).toArray⟩ ++ ⟨#[32]⟩ ++ nmS c
/-- The message of an event. -/
def lnS (t c a : Int) : ByteArray := if hmB c = true then lnX t c ++ (⟨#[32]⟩ ++ mdN a.toNat) else lnX t c
theorem index_at : ∀ (p r : List UInt8), 32 ∉ p → Lib.index (p ++ 32 :: r) [32] = p.length
  | [], r, _ => by simp [Lib.index, List.isPrefixOf]
  | b :: p, r, h => by
    have h1 : ¬ (32 : UInt8) = b := fun e => h (by simp [e])
    have ih := index_at p r (fun e => h (List.mem_cons_of_mem _ e))
    show Lib.index (b :: (p ++ 32 :: r)) [32] = _
    unfold Lib.index
    rw [ih]
    have h2 : List.isPrefixOf [32] (b :: (p ++ 32 :: r)) = false := by simp [List.isPrefixOf, h1]
    have h3 : (((p.length : Nat) : Int) == -1) = false := by rw [beq_eq_false_iff_ne]; omega
    rw [h2]
    simp [h3]
theorem index_no : ∀ (p : List UInt8), 32 ∉ p → Lib.index p [32] = -1
  | [], _ => by simp [Lib.index]
  | b :: p, h => by
    have h1 : ¬ (32 : UInt8) = b := fun e => h (by simp [e])
    have ih := index_no p (fun e => h (List.mem_cons_of_mem _ e))
    unfold Lib.index
    rw [ih]
    simp [List.isPrefixOf, h1]
theorem cut_at (p r : List UInt8) (h : 32 ∉ p) : Lib.cut (p ++ 32 :: r) [32] = (p, r, true) := by
  unfold Lib.cut
  rw [index_at p r h, if_pos (by omega)]
  simp
theorem cut_no (p : List UInt8) (h : 32 ∉ p) : Lib.cut p [32] = (p, [], false) := by
  unfold Lib.cut
  rw [index_no p h, if_neg (by omega)]
theorem dv_of {d : Nat} (h : d < 10) : Lib.digitVal (UInt8.ofNat (48 + d)) = some d := by
  have : ∀ d, d < 10 → Lib.digitVal (UInt8.ofNat (48 + d)) = some d := by decide
  exact this d h
theorem df_app : ∀ (l r : List UInt8) (acc : Nat), Lib.decFrom acc (l ++ r) = (Lib.decFrom acc l).bind fun n => Lib.decFrom n r
  | [], r, acc => by simp [Lib.decFrom]
  | b :: l, r, acc => by
    simp only [List.cons_append, Lib.decFrom]
    cases Lib.digitVal b with
    | none => rfl
    | some d => exact df_app l r _
theorem df_dec (u : Nat) : Lib.decFrom 0 (Lib.decDigits u) = some u := by
  induction u using Nat.strongRecOn with
  | _ u ih =>
    by_cases h : u < 10
    · rw [Lib.decDigits, dif_pos h]
      simp only [Lib.decFrom, dv_of h]
      simp
    · rw [Lib.decDigits, dif_neg h, df_app, ih (u / 10) (by omega)]
      simp only [Option.bind, Lib.decFrom, dv_of (show u % 10 < 10 by omega)]
      congr 1
      omega
theorem dd_len : ∀ (k u : Nat), u < 10 ^ (k + 1) → (Lib.decDigits u).length ≤ k + 1
  | 0, u, h => by rw [Lib.decDigits, dif_pos (by simpa using h)]; simp
  | k + 1, u, h => by
    by_cases z : u < 10
    · rw [Lib.decDigits, dif_pos z]; simp
    · rw [Lib.decDigits, dif_neg z]
      have := dd_len k (u / 10) (by rw [Nat.pow_succ] at h; omega)
      simp only [List.length_append, List.length_cons, List.length_nil]
      omega
theorem dd_ne (u : Nat) : Lib.decDigits u ≠ [] := by
  rw [Lib.decDigits]
  split <;> simp
theorem dd_mem (u : Nat) : ∀ b, b ∈ Lib.decDigits u → 48 ≤ b.toNat ∧ b.toNat ≤ 57 := by
  induction u using Nat.strongRecOn with
  | _ u ih =>
    intro b hb
    have D : ∀ d, d < 10 → 48 ≤ (UInt8.ofNat (48 + d)).toNat ∧ (UInt8.ofNat (48 + d)).toNat ≤ 57 := by decide
    by_cases h : u < 10
    · rw [Lib.decDigits, dif_pos h] at hb
      rw [List.mem_singleton] at hb
      subst hb
      exact D u h
    · rw [Lib.decDigits, dif_neg h, List.mem_append] at hb
      rcases hb with hb | hb
      · exact ih (u / 10) (by omega) b hb
      · rw [List.mem_singleton] at hb
        subst hb
        exact D _ (by omega)
theorem atoi_it {t : Int} (h0 : 0 ≤ t) (h1 : t ≤ 1000000) : Lib.atoiAll (Lib.itoa t) = .ok t := by
  have e : Lib.itoa t = Lib.decDigits t.toNat := by unfold Lib.itoa; rw [if_neg (by omega)]
  have hl := dd_len 6 t.toNat (by have : (10 : Nat) ^ (6 + 1) = 10000000 := by decide
                                  omega)
  rw [e, Lib.atoiAll_short _ (by omega)]
  have hf := df_dec t.toNat
  cases hd : Lib.decDigits t.toNat with
  | nil => exact absurd hd (dd_ne _)
  | cons b r =>
    have hb := dd_mem t.toNat b (by rw [hd]; simp)
    have n1 : (b == 45) = false := by rw [beq_eq_false_iff_ne]; rintro rfl; revert hb; decide
    have n2 : (b == 43) = false := by rw [beq_eq_false_iff_ne]; rintro rfl; revert hb; decide
    rw [hd] at hf
    simp only [Lib.atoi, n1, n2, Lib.decNat, List.isEmpty_cons, hf, Bool.false_eq_true, if_false, Option.map, Lib.NumEnd.ofOption]
    congr 1
    omega
theorem it_no (t : Int) (h0 : 0 ≤ t) : 32 ∉ Lib.itoa t := by
  have e : Lib.itoa t = Lib.decDigits t.toNat := by unfold Lib.itoa; rw [if_neg (by omega)]
  rw [e]
  intro h
  have := dd_mem _ _ h
  revert this
  decide
theorem trim_t (l : List UInt8) : Lib.trimPrefix (116 :: l) [116] = l := by simp [Lib.trimPrefix, Lib.hasPrefix, List.isPrefixOf]
theorem mN_no {k : Nat} (h : k < 7) : 32 ∉ (mN k).data.toList := by
  have : ∀ k, k < 7 → 32 ∉ (mN k).data.toList := by decide +kernel
  exact this k h
theorem mdN_no {k : Nat} (h : k < 6) : 32 ∉ (mdN k).data.toList := by
  have : ∀ k, k < 6 → 32 ∉ (mdN k).data.toList := by decide +kernel
  exact this k h
theorem mN_inj {i j : Nat} (hi : i < 7) (hj : j < 7) (h : (mN i).data.toList = (mN j).data.toList) : i = j := by
  have : ∀ i, i < 7 → ∀ j, j < 7 → (mN i).data.toList = (mN j).data.toList → i = j := by decide +kernel
  exact this i hi j hj h
theorem mdN_inj {i j : Nat} (hi : i < 6) (hj : j < 6) (h : (mdN i).data.toList = (mdN j).data.toList) : i = j := by
  have : ∀ i, i < 6 → ∀ j, j < 6 → (mdN i).data.toList = (mdN j).data.toList → i = j := by decide +kernel
  exact this i hi j hj h
theorem mdN_ne {i : Nat} (hi : i < 6) : (mdN i).data.toList ≠ [] := by
  have : ∀ i, i < 6 → (mdN i).data.toList ≠ [] := by decide +kernel
  exact this i hi
theorem rpB_iff (t c a : Int) : rpB t c a = true ↔ (∃ k, k < 7 ∧ mC k = c) ∧ (0 ≤ t ∧ t ≤ 1000000) ∧ 0 ≤ a ∧ a ≤ (if hmB c = true then 5 else 0) := by
  unfold rpB
  simp only [Bool.and_eq_true, decide_eq_true_iff, nmB_iff]
  constructor
  · rintro ⟨⟨⟨⟨h1, h2⟩, h3⟩, h4⟩, h5⟩
    exact ⟨h1, ⟨h2, h3⟩, h4, h5⟩
  · rintro ⟨h1, ⟨h2, h3⟩, h4, h5⟩
    exact ⟨⟨⟨⟨h1, h2⟩, h3⟩, h4⟩, h5⟩
def c1 (s : ByteArray) : List UInt8 := (Lib.cut s.data.toList [32]).1
def c2 (s : ByteArray) : List UInt8 := (Lib.cut (Lib.cut s.data.toList [32]).2.1 [32]).1
def c3 (s : ByteArray) : List UInt8 := (Lib.cut (Lib.cut s.data.toList [32]).2.1 [32]).2.1
theorem lnX_list (t c : Int) : (lnX t c).data.toList = (116 :: Lib.itoa t) ++ 32 :: (nmS c).data.toList := by
  unfold lnX
  simp
theorem lnS_list (t c a : Int) : (lnS t c a).data.toList = (116 :: Lib.itoa t) ++ 32 :: ((nmS c).data.toList ++ if hmB c = true then 32 :: (mdN a.toNat).data.toList else []) := by
  unfold lnS
  split
  · rw [ByteArray.data_append, Array.toList_append, lnX_list]
    simp
  · rw [lnX_list]
    simp
/-- What the parts of a message are. -/
theorem back {t c a : Int} (h : rpB t c a = true) : Lib.atoiAll (Lib.trimPrefix (c1 (lnS t c a)) [116]) = .ok t ∧ (∃ k, k < 7 ∧ mC k = c ∧ (mN k).data.toList = c2 (lnS t c a)) ∧ (hmB c = true → (0 ≤ a ∧ a ≤ 5) ∧ (mdN a.toNat).data.toList = c3 (lnS t c a)) ∧ (hmB c = false → a = 0 ∧ c3 (lnS t c a) = []) := by
  obtain ⟨⟨k, hk, rfl⟩, ⟨h0, h1⟩, h2, h3⟩ := (rpB_iff _ _ _).1 h
  have E := lnS_list t (mC k) a
  rw [nmS_of hk] at E
  have n1 : (32 : UInt8) ∉ (116 :: Lib.itoa t) := by
    intro e
    rcases List.mem_cons.1 e with e | e
    · revert e; decide
    · exact it_no t h0 e
  have F := cut_at _ ((mN k).data.toList ++ if hmB (mC k) = true then 32 :: (mdN a.toNat).data.toList else []) n1
  rw [← E] at F
  unfold c1 c2 c3
  rw [F]
  show Lib.atoiAll (Lib.trimPrefix (116 :: Lib.itoa t) [116]) = _ ∧ _
  rw [trim_t, atoi_it h0 h1]
  refine ⟨rfl, ?_⟩
  cases hm : hmB (mC k) with
  | true =>
    rw [hm] at h3
    simp only [if_true] at h3 ⊢
    have G := cut_at (mN k).data.toList (mdN a.toNat).data.toList (mN_no hk)
    rw [G]
    exact ⟨⟨k, hk, rfl, rfl⟩, fun _ => ⟨⟨h2, h3⟩, rfl⟩, fun h => absurd h (by simp)⟩
  | false =>
    rw [hm] at h3
    simp only [Bool.false_eq_true, if_false, List.append_nil] at h3 ⊢
    have G := cut_no (mN k).data.toList (mN_no hk)
    rw [G]
    exact ⟨⟨k, hk, rfl, rfl⟩, fun h => absurd h (by simp), fun _ => ⟨by omega, rfl⟩⟩
theorem lnS_inj {t c a t' c' a' : Int} (h : rpB t c a = true) (h' : rpB t' c' a' = true) (e : lnS t c a = lnS t' c' a') : t = t' ∧ c = c' ∧ a = a' := by
  obtain ⟨x1, ⟨k, hk, x2, x3⟩, x4, x5⟩ := back h
  obtain ⟨y1, ⟨j, hj, y2, y3⟩, y4, y5⟩ := back h'
  rw [e] at x1 x3 x4 x5
  have e1 : t = t' := by have := x1.symm.trans y1; injection this
  have e2 : k = j := mN_inj hk hj (x3.trans y3.symm)
  subst e2
  have e3 : c = c' := x2.symm.trans y2
  subst e3
  refine ⟨e1, rfl, ?_⟩
  cases hm : hmB c with
  | true =>
    obtain ⟨p1, p2⟩ := x4 hm
    obtain ⟨q1, q2⟩ := y4 hm
    have := mdN_inj (show a.toNat < 6 by omega) (show a'.toNat < 6 by omega) (p2.trans q2.symm)
    omega
  | false => rw [(x5 hm).1, (y5 hm).1]
/-- What Parse answers. -/
def PsR (s : ByteArray) (t c a : Int) (ok : Bool) : Prop := (ok = true → rpB t c a = true ∧ lnS t c a = s) ∧ (ok = false → (t = 0 ∧ c = 0 ∧ a = 0) ∧ ∀ t' c' a', rpB t' c' a' = true → lnS t' c' a' ≠ s)
theorem PsR.uniq {s : ByteArray} {t c a t' c' a' : Int} {o o' : Bool} (h : PsR s t c a o) (h' : PsR s t' c' a' o') : t = t' ∧ c = c' ∧ a = a' ∧ o = o' := by
  cases o with
  | true =>
    obtain ⟨x1, x2⟩ := h.1 rfl
    cases o' with
    | true =>
      obtain ⟨y1, y2⟩ := h'.1 rfl
      obtain ⟨e1, e2, e3⟩ := lnS_inj x1 y1 (x2.trans y2.symm)
      exact ⟨e1, e2, e3, rfl⟩
    | false => exact absurd x2 ((h'.2 rfl).2 _ _ _ x1)
  | false =>
    obtain ⟨⟨x1, x2, x3⟩, x4⟩ := h.2 rfl
    cases o' with
    | true =>
      obtain ⟨y1, y2⟩ := h'.1 rfl
      exact absurd y2 (x4 _ _ _ y1)
    | false =>
      obtain ⟨⟨y1, y2, y3⟩, y4⟩ := h'.2 rfl
      exact ⟨x1.trans y1.symm, x2.trans y2.symm, x3.trans y3.symm, rfl⟩
theorem PsR.told {t c a t' c' a' : Int} {o : Bool} (h : rpB t c a = true) (h' : PsR (lnS t c a) t' c' a' o) : t' = t ∧ c' = c ∧ a' = a ∧ o = true := by
  cases o with
  | true =>
    obtain ⟨x1, x2⟩ := h'.1 rfl
    obtain ⟨e1, e2, e3⟩ := lnS_inj x1 h x2
    exact ⟨e1, e2, e3, rfl⟩
  | false => exact absurd rfl ((h'.2 rfl).2 _ _ _ h)
end Go.Proofs.YtfejdbmamaggpaaDoor
