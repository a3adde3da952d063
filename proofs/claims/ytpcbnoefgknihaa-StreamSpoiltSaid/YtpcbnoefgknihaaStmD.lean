/- One byte of a packet changed: it is refused, what comes behind it is found; plain. -/
import Derived.Test.YtpcbnoefgknihaaStmC
namespace Go.Proofs.Ytpcbnoefgknihaa
open Go.ChangeShapes Go.WideShapes Go.ChangeAt Go.RowKit
set_option linter.unusedVariables false
set_option linter.unusedSimpArgs false
theorem unF_set : ∀ (l : List Int) (i : Nat) (c : Int), i < (esL l).length → (esL l).getD i 0 ≠ 125 → (i = 0 ∨ (esL l).getD (i - 1) 0 ≠ 125) → c ≠ 125 → ∃ j, j < l.length ∧ l.getD j 0 = (esL l).getD i 0 ∧ unF ((esL l).set i c) = some (l.set j c)
  | [], i, c, h, _, _, _ => by simp [esL] at h
  | x :: r, i, c, h1, h2, h3, hc => by
    have ih := unF_set r
    have e : esL (x :: r) = esB x ++ esL r := rfl
    rw [e] at h1 h2 h3 ⊢
    have two : ∀ y, esB x = [125, y] → y ≠ 125 → (∀ s, unF (125 :: y :: s) = (unF s).map (x :: ·)) → ∃ j, j < (x :: r).length ∧ (x :: r).getD j 0 = (esB x ++ esL r).getD i 0 ∧ unF ((esB x ++ esL r).set i c) = some ((x :: r).set j c) := by
      intro y eb hy hu
      rw [eb] at h1 h2 h3 ⊢
      simp only [List.cons_append, List.nil_append] at h1 h2 h3 ⊢
      match i with
      | 0 => exact absurd rfl h2
      | 1 => rcases h3 with q | q; cases q; exact absurd rfl q
      | i' + 2 =>
        obtain ⟨j, j1, j2, j3⟩ := ih i' c (by simp at h1; omega) (by simpa [List.getD] using h2) (by
          rcases i' with _ | k
          · exact .inl rfl
          · rcases h3 with q | q
            · cases q
            · exact .inr (by simpa [List.getD] using q)) hc
        refine ⟨j + 1, by simp; omega, by simpa [List.getD] using j2, ?_⟩
        show unF (125 :: y :: (esL r).set i' c) = _
        rw [hu, j3]
        rfl
    by_cases hx : x = 126
    · exact two 94 (by simp [esB, hx]) (by decide) (fun s => by rw [unF_94, hx])
    · by_cases hx2 : x = 125
      · exact two 93 (by simp [esB, hx, hx2]) (by decide) (fun s => by rw [unF_93, hx2])
      · rw [show esB x = [x] by simp [esB, hx, hx2]] at h1 h2 h3 ⊢
        simp only [List.cons_append, List.nil_append] at h1 h2 h3 ⊢
        match i with
        | 0 =>
          refine ⟨0, by simp, rfl, ?_⟩
          show unF (c :: esL r) = _
          rw [unF_plain hc, unF_esL]
          rfl
        | i' + 1 =>
          obtain ⟨j, j1, j2, j3⟩ := ih i' c (by simp at h1; omega) (by simpa [List.getD] using h2) (by
            rcases i' with _ | k
            · exact .inl rfl
            · rcases h3 with q | q
              · cases q
              · exact .inr (by simpa [List.getD] using q)) hc
          refine ⟨j + 1, by simp; omega, by simpa [List.getD] using j2, ?_⟩
          show unF (x :: (esL r).set i' c) = _
          rw [unF_plain hx2, j3]
          rfl
theorem okP_bad {b : List Int} (hb : BYL b) {j : Nat} {c : Int} (hj : j < (smL b).length) (hc : 0 ≤ c ∧ c < 256) (hne : (smL b).getD j 0 ≠ c) : okP ((smL b).set j c) = false := by
  have hs := crI_lt b
  have hl : ((smL b).set j c).length = b.length + 2 := by simp [smL]
  unfold okP
  rw [hl, show b.length + 2 - 2 = b.length by omega, show b.length + 2 - 1 = b.length + 1 by omega]
  refine Bool.and_eq_false_iff.2 (.inr (decide_eq_false ?_))
  have hj2 : j < b.length + 2 := by simpa [smL] using hj
  unfold smL at hne ⊢
  have go : ∀ (b' : List Int) (A D : Int), b'.length = b.length → (b' ++ [A, D]).take b.length = b' ∧ (b' ++ [A, D]).getD b.length 0 = A ∧ (b' ++ [A, D]).getD (b.length + 1) 0 = D := fun b' A D e => by
    rw [← e]
    refine ⟨by simp, by simp [List.getD], by simp [List.getD, List.getElem?_append_right]⟩
  rcases (show j < b.length ∨ j = b.length ∨ j = b.length + 1 by omega) with q | q | q
  · rw [List.set_append_left _ _ q]
    obtain ⟨e1, e2, e3⟩ := go (b.set j c) ((crI b / 256 : Nat) : Int) ((crI b % 256 : Nat) : Int) (by simp)
    rw [e1, e2, e3]
    have hne2 : c ≠ b.getD j 0 := by
      intro h
      apply hne
      rw [h]
      simp [List.getD, List.getElem?_append_left q]
    have := crI_set q hb hc hne2
    omega
  · subst q
    obtain ⟨f1, f2, f3⟩ := go b ((crI b / 256 : Nat) : Int) ((crI b % 256 : Nat) : Int) rfl
    rw [f2] at hne
    rw [List.set_append_right _ _ (Nat.le_refl _), Nat.sub_self]
    obtain ⟨e1, e2, e3⟩ := go b c ((crI b % 256 : Nat) : Int) rfl
    rw [show [((crI b / 256 : Nat) : Int), ((crI b % 256 : Nat) : Int)].set 0 c = [c, ((crI b % 256 : Nat) : Int)] from rfl, e1, e2, e3]
    omega
  · subst q
    obtain ⟨f1, f2, f3⟩ := go b ((crI b / 256 : Nat) : Int) ((crI b % 256 : Nat) : Int) rfl
    rw [f3] at hne
    rw [List.set_append_right _ _ (by omega), show b.length + 1 - b.length = 1 by omega]
    obtain ⟨e1, e2, e3⟩ := go b ((crI b / 256 : Nat) : Int) c rfl
    rw [show [((crI b / 256 : Nat) : Int), ((crI b % 256 : Nat) : Int)].set 1 c = [((crI b / 256 : Nat) : Int), c] from rfl, e1, e2, e3]
    omega
theorem fdF_spoilt {P Q : List Int} (hP : BYL P) (hQ : 1 ≤ Q.length ∧ Q.length ≤ 64) {t : Nat} {c : Int} (h1 : 1 ≤ t) (h2 : t + 1 < (pkL P).length) (w1 : (pkL P).getD t 0 ≠ 125) (w2 : (pkL P).getD (t - 1) 0 ≠ 125) (hc : 0 ≤ c ∧ c < 256) (c1 : c ≠ 125) (c2 : c ≠ 126) (c3 : c ≠ (pkL P).getD t 0) : fdF [] ((pkL P).set t c ++ pkL Q) = ([Q], 1, []) := by
  obtain ⟨i, rfl⟩ : ∃ i, t = i + 1 := ⟨t - 1, by omega⟩
  have hi : i < (esL (smL P)).length := by simp [pkL] at h2; omega
  have g1 : ∀ k, k < (esL (smL P)).length → (pkL P).getD (k + 1) 0 = (esL (smL P)).getD k 0 := fun k hk => by simp [pkL, List.getD, List.getElem?_append_left hk]
  rw [g1 i hi] at w1 c3
  have w2' : i = 0 ∨ (esL (smL P)).getD (i - 1) 0 ≠ 125 := by
    rcases i with _ | k
    · exact .inl rfl
    · refine .inr ?_
      rw [show k + 1 + 1 - 1 = k + 1 by omega, g1 k (by omega)] at w2
      exact w2
  obtain ⟨j, j1, j2, j3⟩ := unF_set (smL P) i c hi w1 w2' c1
  have hp : pkt ((esL (smL P)).set i c) = none := by
    unfold pkt
    split
    · unfold unP
      rw [j3]
      simp [okP_bad hP j1 hc (by rw [j2]; exact fun h => c3 h.symm)]
    · rfl
  have hn : ∀ x ∈ (esL (smL P)).set i c, x ≠ 126 := fun x hx => by
    rcases List.mem_or_eq_of_mem_set hx with q | q
    · exact esL_126 _ x q
    · rw [q]; exact c2
  have he : (esL (smL P)).set i c ≠ [] := by
    intro h
    have := congrArg List.length h
    simp at this
    exact absurd this (es_ne (b := P))
  have es : (pkL P).set (i + 1) c = 126 :: ((esL (smL P)).set i c ++ [126]) := by
    show 126 :: ((esL (smL P) ++ [126]).set i c) = _
    rw [List.set_append_left _ _ hi]
  have f1 : fdF [] ((pkL P).set (i + 1) c) = ([], 1, []) := by
    rw [es, fdF_cons, if_pos rfl, if_pos rfl, fdF_app, fdF_plain _ _ hn]
    simp only [List.nil_append]
    rw [fdF_one, if_pos rfl, if_neg he, hp]
    rfl
  rw [fdF_app, f1, fdF_pk hQ.1 hQ.2 [] rfl]
  rfl
theorem Og.set {e : TypeId} {B g off n cap : Nat} {V : List Value} {w : World} (h : Og e B (.slice (some ⟨g, off, none⟩) n cap) V w) {i : Nat} (hi : i < V.length) (y : Value) : Og e B (.slice (some ⟨g, off, none⟩) n cap) (V.set i y) (w.setCell ⟨g, off + i, none⟩ y) := by
  rcases h with ⟨h, -⟩ | ⟨g', off', cap', cur, e1, hB, hg, hc, hs, hx⟩
  · cases h
  · injection e1 with e1 e2 e3
    injection e1 with e1
    injection e1 with e4 e5 e6
    subst e4 e5 e2 e3
    refine .inr ⟨g, off, cap, cur.setIfInBounds (off + i) y, by simp, hB, heap_setCell_same w g (off + i) cur e y hg, by simpa using hc, by simpa using hs, fun k hk => ?_⟩
    have hk' : k < V.length := by simpa using hk
    by_cases q : k = i
    · subst q
      simp [show off + k < cur.size by omega, hk']
    · rw [Array.getElem?_setIfInBounds_ne (by omega), hx k hk', List.getElem?_set_ne (by omega)]
theorem Og.frz {e : TypeId} {B g off n cap : Nat} {V : List Value} {w : World} (h : Og e B (.slice (some ⟨g, off, none⟩) n cap) V w) (i : Nat) : w.frozen? ⟨g, i, none⟩ = false := by
  rcases h with ⟨h, -⟩ | ⟨g', off', cap', cur, e1, hB, hg, hc, hs, hx⟩
  · cases h
  · injection e1 with e1 e2 e3
    injection e1 with e1
    injection e1 with e4 e5 e6
    subst e4
    exact frozen_of_row w g i cur _ hg
theorem nvals_set (k : IntKind) (l : List Int) (i : Nat) (c : Int) : (nvals k l).set i (.int k c) = nvals k (l.set i c) := by
  simp [nvals, List.map_set]
end Go.Proofs.Ytpcbnoefgknihaa
