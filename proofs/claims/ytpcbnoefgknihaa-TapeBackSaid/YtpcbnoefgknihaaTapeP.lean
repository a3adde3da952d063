/- What is written is read; a byte that is another one is refused; plain. -/
import Derived.Test.YtpcbnoefgknihaaTapeE
import Derived.Test.YtpcbnoefgknihaaTapeW
namespace Go.Proofs.Ytpcbnoefgknihaa
open Go.ChangeShapes Go.WideShapes Go.ChangeAt Go.RowKit
set_option linter.unusedVariables false
set_option linter.unusedSimpArgs false
def I64 (l : List Int) : Prop := ∀ n ∈ l, -9223372036854775808 ≤ n ∧ n ≤ 9223372036854775807
def enR : List Int → List Int → List Int
  | p :: P, r :: R => vn (fo (IntKind.i64.wrap (r - p))) ++ enR P R
  | _, _ => []
def enG : List Int → List (List Int) → List Int
  | _, [] => []
  | P, R :: Z => enR P R ++ enG R Z
theorem rwB_en (P R : List Int) (h : P.length = R.length) : ∀ k, k ≤ R.length → rwB P R k ++ enR (P.drop k) (R.drop k) = enR P R
  | 0, _ => rfl
  | k + 1, hk => by
    have e1 := drop_at (l := P) (k := k) (by omega)
    have e2 := drop_at (l := R) (k := k) (by omega)
    have ih := rwB_en P R h k (by omega)
    rw [← ih, e1, e2]
    simp [rwB, enR]
theorem rwB_all (P R : List Int) (h : P.length = R.length) : rwB P R R.length = enR P R := by
  have := rwB_en P R h R.length (Nat.le_refl _)
  rw [List.drop_eq_nil_of_le (Nat.le_refl _), List.drop_eq_nil_of_le (by omega)] at this
  simpa [enR] using this
theorem dropZ_at {Z : List (List Int)} {k : Nat} (h : k < Z.length) : Z.drop k = Z.getD k [] :: Z.drop (k + 1) := by
  rw [List.drop_eq_getElem_cons h]; simp [List.getD, h]
theorem blB_en (width : Nat) (Z : List (List Int)) (hf : fitB (width : Int) Z = true) : ∀ i, i ≤ Z.length → blB width Z i ++ enG (pvR width Z i) (Z.drop i) = enG (List.replicate width 0) Z
  | 0, _ => rfl
  | i + 1, hi => by
    have ih := blB_en width Z hf i (by omega)
    rw [← ih, dropZ_at (show i < Z.length by omega)]
    have e := rwB_all (pvR width Z i) (Z.getD i []) (by rw [pvR_len hf (by omega), fit_at hf (by omega)])
    rw [blB, e, enG, List.append_assoc]
    rfl
theorem blB_all (width : Nat) (Z : List (List Int)) (hf : fitB (width : Int) Z = true) : blB width Z Z.length = enG (List.replicate width 0) Z := by
  have := blB_en width Z hf Z.length (Nat.le_refl _)
  rw [List.drop_eq_nil_of_le (Nat.le_refl _)] at this
  simpa [enG] using this
theorem rdR_en : ∀ (P R rest : List Int), P.length = R.length → I64 R → rdR P (enR P R ++ rest) = some (R, rest)
  | [], [], rest, _, _ => rfl
  | [], r :: R, _, h, _ => by simp at h
  | p :: P, [], _, h, _ => by simp at h
  | p :: P, r :: R, rest, h, hb => by
    have hr := hb r (by simp)
    have d := i64_within (r - p)
    have ih := rdR_en P R rest (by simpa using h) (fun n hn => hb n (by simp [hn]))
    rw [rdR_cons]
    simp only [enR, List.append_assoc]
    rw [tk_vn (fo_lt d.1 d.2)]
    show Option.map _ (rdR P ((vn (fo (IntKind.i64.wrap (r - p))) ++ (enR P R ++ rest)).drop (vn (fo (IntKind.i64.wrap (r - p)))).length)) = _
    rw [List.drop_left, ih, unfo_fo d.1 d.2]
    have e : IntKind.i64.wrap (p + IntKind.i64.wrap (r - p)) = r := by rw [IntKind.wrap_i64, IntKind.wrap_i64]; omega
    simp [e]
theorem rdG_en : ∀ (Z : List (List Int)) (P rest : List Int), (∀ R ∈ Z, R.length = P.length) → (∀ R ∈ Z, I64 R) → rdG Z.length P (enG P Z ++ rest) = some (Z, rest)
  | [], P, rest, _, _ => rfl
  | R :: Z, P, rest, h, hb => by
    have hR := h R (by simp)
    have ih := rdG_en Z R rest (fun X hX => by rw [h X (by simp [hX]), hR]) (fun X hX => hb X (by simp [hX]))
    show rdG (Z.length + 1) P _ = _
    rw [rdG]
    simp only [enG, List.append_assoc]
    rw [rdR_en P R _ hR.symm (hb R (by simp))]
    show Option.map _ (rdG Z.length R (enG R Z ++ rest)) = _
    rw [ih]
    rfl
theorem fit_all {width : Nat} {Z : List (List Int)} (hf : fitB (width : Int) Z = true) : ∀ R ∈ Z, R.length = width := fun R hR => by
  obtain ⟨i, hi, rfl⟩ := List.getElem_of_mem hR
  have := fit_at hf hi
  simpa [List.getD, hi] using this
theorem rdB_bd {width : Nat} {Z : List (List Int)} (hf : fitB (width : Int) Z = true) (h1 : 1 ≤ Z.length) (h2 : Z.length ≤ 50) (hb : ∀ R ∈ Z, I64 R) (rest : List Int) : rdB width (bdB width Z ++ rest) = some (Z, rest) := by
  have e : bdB width Z ++ rest = 90 :: (Z.length : Int) :: (blB width Z Z.length ++ rest) := by
    unfold bdB hdB
    rw [show (Z.length : Int) % 256 = (Z.length : Int) by omega]
    rfl
  rw [e, blB_all width Z hf]
  unfold rdB
  show (if (90 : Int) = 90 ∧ 1 ≤ (Z.length : Int) ∧ (Z.length : Int) ≤ 50 then rdG (Z.length : Int).toNat (List.replicate width 0) _ else none) = _
  rw [if_pos (by omega), show (Z.length : Int).toNat = Z.length by omega]
  exact rdG_en Z _ rest (fun R hR => by rw [fit_all hf R hR, List.length_replicate]) hb
theorem sum_parts (S : Nat) : ((S / 256 : Nat) : Int) * 256 + ((S % 256 : Nat) : Int) = (S : Int) := by omega
theorem rdK_bk {width : Nat} {Z : List (List Int)} (hf : fitB (width : Int) Z = true) (h1 : 1 ≤ Z.length) (h2 : Z.length ≤ 50) (hb : ∀ R ∈ Z, I64 R) (rest : List Int) : rdK width (bkB width Z ++ rest) = (0, Z, rest) := by
  unfold rdK
  have e : bkB width Z ++ rest = bdB width Z ++ (((crI (bdB width Z) / 256 : Nat) : Int) :: ((crI (bdB width Z) % 256 : Nat) : Int) :: rest) := by unfold bkB; simp
  rw [e, rdB_bd hf h1 h2 hb]
  show (if ((crI (bdB width Z) / 256 : Nat) : Int) * 256 + ((crI (bdB width Z) % 256 : Nat) : Int) = _ then _ else _) = _
  rw [sum_parts, if_pos]
  rw [show (bdB width Z ++ (((crI (bdB width Z) / 256 : Nat) : Int) :: ((crI (bdB width Z) % 256 : Nat) : Int) :: rest)).length - (rest.length + 2) = (bdB width Z).length by rw [List.length_append, List.length_cons, List.length_cons]; omega, List.take_left]
/-- All parts of a list of places. -/
def ptL (Z : List (List Int)) : List Nat → List (List Int)
  | [] => []
  | x :: r => ptZ Z x ++ ptL Z r
theorem ptL_snoc (Z : List (List Int)) (x : Nat) : ∀ l, ptL Z (l ++ [x]) = ptL Z l ++ ptZ Z x
  | [] => by simp [ptL]
  | y :: r => by simp [ptL, ptL_snoc Z x r]
theorem ptL_range (Z : List (List Int)) : ∀ m, ptL Z (List.range m) = Z.take (50 * m)
  | 0 => by simp [ptL]
  | m + 1 => by
    rw [List.range_succ, ptL_snoc, ptL_range Z m, ptZ, Nat.mul_add, List.take_add]
theorem rdA_wt {width : Nat} {Z : List (List Int)} (hf : fitB (width : Int) Z = true) (hb : ∀ R ∈ Z, I64 R) : ∀ (l : List Nat), (∀ x ∈ l, 50 * x < Z.length) → rdA width (wtL width Z l).length (wtL width Z l) = (0, 0, ptL Z l)
  | [], _ => rfl
  | x :: r, hl => by
    have hx := hl x (by simp)
    have ih := rdA_wt hf hb r (fun y hy => hl y (by simp [hy]))
    have hp : 1 ≤ (ptZ Z x).length ∧ (ptZ Z x).length ≤ 50 := by rw [ptZ_len]; omega
    have K := rdK_bk (fit_part hf x) hp.1 hp.2 (fun R hR => hb R (by unfold ptZ at hR; exact List.mem_of_mem_drop (List.mem_of_mem_take hR))) (wtL width Z r)
    have hne : wtL width Z (x :: r) ≠ [] := fun e => by
      have := congrArg List.length e
      simp [wtL, bkB] at this
    rw [rdA_ok hne (by rw [show wtL width Z (x :: r) = bkB width (ptZ Z x) ++ wtL width Z r from rfl, K])]
    rw [show wtL width Z (x :: r) = bkB width (ptZ Z x) ++ wtL width Z r from rfl, K]
    simp only [ih, if_true]
    rfl
theorem rdA_write {width : Nat} {Z : List (List Int)} (hf : fitB (width : Int) Z = true) (hb : ∀ R ∈ Z, I64 R) : rdA width (wtB width Z (ckN Z.length)).length (wtB width Z (ckN Z.length)) = (0, 0, Z) := by
  have := rdA_wt hf hb (List.range (ckN Z.length)) (fun x hx => by have := List.mem_range.1 hx; unfold ckN at this; omega)
  rw [wtL_range, ptL_range, List.take_of_length_le (by unfold ckN; omega)] at this
  exact this
/-- A block of which one byte is another one is no block of that length. -/
theorem rdK_spoilt {width : Nat} {Z : List (List Int)} {i : Nat} {c : Int} (hi : i < (bkB width Z).length) (hc : 0 ≤ c ∧ c < 256) (hne : c ≠ (bkB width Z).getD i 0) : (rdK width ((bkB width Z).set i c)).1 ≠ 0 ∨ 0 < (rdK width ((bkB width Z).set i c)).2.2.length := by
  by_cases q : (rdK width ((bkB width Z).set i c)).1 = 0
  · refine .inr ?_
    obtain ⟨D, eD⟩ : ∃ D, bdB width Z = D := ⟨_, rfl⟩
    have DB : BYL D := by rw [← eD]; exact bdB_byl width Z
    unfold bkB at hi hne q ⊢
    rw [eD] at hi hne q ⊢
    obtain ⟨S, eS⟩ : ∃ S, crI D = S := ⟨_, rfl⟩
    rw [eS] at hi hne q ⊢
    have hS : S < 65536 := by rw [← eS]; exact crI_lt D
    unfold rdK at q ⊢
    split at q
    · rename_i Z' h l R hB
      split at q
      · rename_i hsum
        rw [if_pos hsum]
        show 0 < R.length
        obtain ⟨-, -, -, k, k1, k2, k3⟩ := rdB_sub hB
        by_cases hR : R = []
        · exfalso
          subst hR
          have hk : k = D.length := by
            have := congrArg List.length k3
            rw [List.length_drop] at this
            simp at this k2
            omega
          subst hk
          rw [show ((D ++ [((S / 256 : Nat) : Int), ((S % 256 : Nat) : Int)]).set i c).length - (([] : List Int).length + 2) = D.length by simp] at hsum
          by_cases hiD : i < D.length
          · rw [List.set_append_left _ _ hiD] at hsum k3
            rw [List.drop_left' (by simp)] at k3
            rw [List.take_left' (by simp)] at hsum
            injection k3 with e1 e2
            injection e2 with e2 e3
            subst e1 e2
            rw [sum_parts] at hsum
            have hset := crI_set hiD DB hc (by simpa [List.getD, List.getElem?_append_left hiD] using hne)
            rw [eS] at hset
            omega
          · rw [List.set_append_right _ _ (by omega)] at hsum k3
            rw [List.drop_left] at k3
            rw [List.take_left, eS] at hsum
            obtain ⟨j, rfl⟩ : ∃ j, i = D.length + j := ⟨i - D.length, by omega⟩
            rw [Nat.add_sub_cancel_left] at k3
            have hj : j < 2 := by simp at hi; omega
            have hne2 : c ≠ [((S / 256 : Nat) : Int), ((S % 256 : Nat) : Int)].getD j 0 := by
              have := hne
              rw [List.getD_eq_getElem?_getD, List.getElem?_append_right (by omega), Nat.add_sub_cancel_left] at this
              rw [List.getD_eq_getElem?_getD]
              exact this
            match j, hj with
            | 0, _ =>
              have k3 : h :: l :: ([] : List Int) = [c, ((S % 256 : Nat) : Int)] := k3
              injection k3 with e1 e2
              injection e2 with e2 e3
              have hne2 : c ≠ ((S / 256 : Nat) : Int) := hne2
              omega
            | 1, _ =>
              have k3 : h :: l :: ([] : List Int) = [((S / 256 : Nat) : Int), c] := k3
              injection k3 with e1 e2
              injection e2 with e2 e3
              have hne2 : c ≠ ((S % 256 : Nat) : Int) := hne2
              omega
        · cases R with
          | nil => exact absurd rfl hR
          | cons a b => simp
      · cases q
    · cases q
  · exact .inl q
end Go.Proofs.Ytpcbnoefgknihaa
