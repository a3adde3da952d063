/- Packets in a stream of bytes: what they are, plain. -/
import Derived.Test.YtpcbnoefgknihaaTape4
namespace Go.Proofs.Ytpcbnoefgknihaa
open Go.ChangeShapes Go.WideShapes Go.ChangeAt Go.RowKit
set_option linter.unusedVariables false
set_option linter.unusedSimpArgs false
def esB (x : Int) : List Int := if x = 126 then [125, 94] else if x = 125 then [125, 93] else [x]
def esL : List Int → List Int
  | [] => []
  | x :: r => esB x ++ esL r
def smL (b : List Int) : List Int := b ++ [((crI b / 256 : Nat) : Int), ((crI b % 256 : Nat) : Int)]
def pkL (b : List Int) : List Int := 126 :: (esL (smL b) ++ [126])
def rowL : List (List Int) → List Int
  | [] => []
  | b :: r => pkL b ++ rowL r
def unF : List Int → Option (List Int)
  | [] => some []
  | x :: r => if x = 125 then (match r with
      | [] => none
      | y :: r' => if y = 94 then (unF r').map (126 :: ·) else if y = 93 then (unF r').map (125 :: ·) else none)
    else (unF r).map (x :: ·)
/-- Is what came without escapes a packet with its sum? -/
def okP (p : List Int) : Bool := decide (3 ≤ p.length) && decide (p.length ≤ 66) && decide (crI (p.take (p.length - 2)) = (p.getD (p.length - 2) 0 * 256 + p.getD (p.length - 1) 0).toNat)
def unP (l : List Int) : Option (List Int) := match unF l with
  | none => none
  | some p => if okP p = true then some (p.take (p.length - 2)) else none
def pkt (l : List Int) : Option (List Int) := if l.length ≤ 140 then unP l else none
/-- What a feeder finds, refuses, and what waits. -/
def fdF : List Int → List Int → List (List Int) × Nat × List Int
  | P, [] => ([], 0, P)
  | P, x :: r => if x = 126 then (if P = [] then fdF [] r else match pkt P with
      | some q => (q :: (fdF [] r).1, (fdF [] r).2.1, (fdF [] r).2.2)
      | none => ((fdF [] r).1, (fdF [] r).2.1 + 1, (fdF [] r).2.2))
    else fdF (P ++ [x]) r
theorem fdF_cons (P : List Int) (x : Int) (r : List Int) : fdF P (x :: r) = if x = 126 then (if P = [] then fdF [] r else match pkt P with
      | some q => (q :: (fdF [] r).1, (fdF [] r).2.1, (fdF [] r).2.2)
      | none => ((fdF [] r).1, (fdF [] r).2.1 + 1, (fdF [] r).2.2))
    else fdF (P ++ [x]) r := by rw [fdF]
theorem fdF_app : ∀ (L M P : List Int), fdF P (L ++ M) = ((fdF P L).1 ++ (fdF (fdF P L).2.2 M).1, (fdF P L).2.1 + (fdF (fdF P L).2.2 M).2.1, (fdF (fdF P L).2.2 M).2.2)
  | [], M, P => by simp [fdF]
  | x :: r, M, P => by
    rw [List.cons_append, fdF_cons, fdF_cons]
    by_cases h : x = 126
    · simp only [if_pos h]
      by_cases hp : P = []
      · simp only [if_pos hp]
        exact fdF_app r M []
      · simp only [if_neg hp]
        have ih := fdF_app r M []
        cases pkt P with
        | some q => simp only [ih, List.cons_append]
        | none => simp only [ih]; refine Prod.ext rfl (Prod.ext ?_ rfl); show _ + 1 = _ + 1 + _; omega
    · simp only [if_neg h]
      exact fdF_app r M (P ++ [x])
theorem fdF_one (P : List Int) (x : Int) : fdF P [x] = if x = 126 then (if P = [] then ([], 0, []) else match pkt P with
      | some q => ([q], 0, [])
      | none => ([], 1, [])) else ([], 0, P ++ [x]) := by
  rw [fdF_cons]
  by_cases h : x = 126
  · simp only [if_pos h]
    by_cases hp : P = []
    · simp [hp, fdF]
    · simp only [if_neg hp]
      cases pkt P <;> simp [fdF]
  · simp [h, fdF]
theorem fdF_plain : ∀ (L P : List Int), (∀ x ∈ L, x ≠ 126) → fdF P L = ([], 0, P ++ L)
  | [], P, _ => by simp [fdF]
  | x :: r, P, h => by
    rw [fdF_cons, if_neg (h x (by simp)), fdF_plain r (P ++ [x]) (fun y hy => h y (by simp [hy]))]
    simp
theorem esB_126 (x : Int) : ∀ y ∈ esB x, y ≠ 126 := by
  intro y hy
  unfold esB at hy
  split at hy
  · simp at hy; omega
  · split at hy
    · simp at hy; omega
    · simp at hy; omega
theorem esL_126 : ∀ (l : List Int), ∀ y ∈ esL l, y ≠ 126
  | [], y, hy => by cases hy
  | x :: r, y, hy => by
    rcases List.mem_append.1 hy with h | h
    · exact esB_126 x y h
    · exact esL_126 r y h
theorem esB_len (x : Int) : 1 ≤ (esB x).length ∧ (esB x).length ≤ 2 := by
  unfold esB
  split
  · simp
  · split <;> simp
theorem esL_len : ∀ (l : List Int), l.length ≤ (esL l).length ∧ (esL l).length ≤ 2 * l.length
  | [] => by simp [esL]
  | x :: r => by
    have := esL_len r
    have := esB_len x
    simp only [esL, List.length_append, List.length_cons]
    omega
theorem esL_app : ∀ (l m : List Int), esL (l ++ m) = esL l ++ esL m
  | [], m => rfl
  | x :: r, m => by simp [esL, esL_app r m]
theorem unF_plain {x : Int} (h : x ≠ 125) (r : List Int) : unF (x :: r) = (unF r).map (x :: ·) := by rw [unF.eq_def]; simp [h]
theorem unF_94 (r : List Int) : unF (125 :: 94 :: r) = (unF r).map (126 :: ·) := by rw [unF.eq_def]; simp
theorem unF_93 (r : List Int) : unF (125 :: 93 :: r) = (unF r).map (125 :: ·) := by rw [unF.eq_def]; simp
theorem unF_end : unF [125] = none := by rw [unF.eq_def]; simp
theorem unF_bad {y : Int} (h1 : y ≠ 94) (h2 : y ≠ 93) (r : List Int) : unF (125 :: y :: r) = none := by rw [unF.eq_def]; simp [h1, h2]
theorem unF_es : ∀ (l r : List Int), unF (esL l ++ r) = (unF r).map (l ++ ·)
  | [], r => by cases h : unF r <;> simp [esL, h]
  | x :: l, r => by
    have ih := unF_es l r
    show unF ((esB x ++ esL l) ++ r) = _
    unfold esB
    split
    · rename_i h
      simp only [List.cons_append, List.nil_append]
      rw [unF_94, ih]
      cases unF r <;> simp [h]
    · split
      · rename_i h1 h2
        simp only [List.cons_append, List.nil_append]
        rw [unF_93, ih]
        cases unF r <;> simp [h2]
      · rename_i h1 h2
        simp only [List.cons_append, List.nil_append]
        rw [unF_plain h2, ih]
        cases unF r <;> simp
theorem unF_esL (l : List Int) : unF (esL l) = some l := by
  have := unF_es l []
  rw [List.append_nil] at this
  rw [this]
  simp [unF]
theorem smL_byl {b : List Int} (h : BYL b) : BYL (smL b) := h.app (fun c hc => by
  have := crI_lt b
  simp at hc
  omega)
theorem okP_sm {b : List Int} (h1 : 1 ≤ b.length) (h2 : b.length ≤ 64) : okP (smL b) = true := by
  have hl : (smL b).length = b.length + 2 := by simp [smL]
  have ht : (smL b).take b.length = b := by simp [smL]
  have e0 : (smL b).getD b.length 0 = ((crI b / 256 : Nat) : Int) := by simp [smL, List.getD]
  have e1 : (smL b).getD (b.length + 1) 0 = ((crI b % 256 : Nat) : Int) := by simp [smL, List.getD, List.getElem?_append_right]
  unfold okP
  rw [hl, show b.length + 2 - 2 = b.length by omega, show b.length + 2 - 1 = b.length + 1 by omega, ht, e0, e1]
  simp only [Bool.and_eq_true, decide_eq_true_eq]
  omega
theorem unP_sm {b : List Int} (h1 : 1 ≤ b.length) (h2 : b.length ≤ 64) : unP (esL (smL b)) = some b := by
  unfold unP
  rw [unF_esL]
  simp only [okP_sm h1 h2, if_true]
  simp [smL]
theorem pkt_sm {b : List Int} (h1 : 1 ≤ b.length) (h2 : b.length ≤ 64) : pkt (esL (smL b)) = some b := by
  unfold pkt
  have := (esL_len (smL b)).2
  rw [if_pos (by simp [smL] at this ⊢; omega), unP_sm h1 h2]
theorem es_ne {b : List Int} : esL (smL b) ≠ [] := by
  intro h
  have := (esL_len (smL b)).1
  rw [h] at this
  simp [smL] at this
theorem fdF_pk {b : List Int} (h1 : 1 ≤ b.length) (h2 : b.length ≤ 64) (P : List Int) (hP : P = []) : fdF P (pkL b) = ([b], 0, []) := by
  subst hP
  unfold pkL
  rw [fdF_cons, if_pos rfl, if_pos rfl, fdF_app, fdF_plain _ _ (esL_126 _)]
  simp only [List.nil_append]
  rw [fdF_one, if_pos rfl, if_neg es_ne, pkt_sm h1 h2]
  rfl
theorem fdF_row : ∀ (ls : List (List Int)), (∀ b ∈ ls, 1 ≤ b.length ∧ b.length ≤ 64) → fdF [] (rowL ls) = (ls, 0, [])
  | [], _ => rfl
  | b :: r, h => by
    have hb := h b (by simp)
    show fdF [] (pkL b ++ rowL r) = _
    rw [fdF_app, fdF_pk hb.1 hb.2 [] rfl, fdF_row r (fun c hc => h c (by simp [hc]))]
    simp
end Go.Proofs.Ytpcbnoefgknihaa
