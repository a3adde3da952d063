/- The outliers; walked. -/
import Derived.Test.YticecjjlafmclaaTrend10
import Derived.Test.YticecjjlafmclaaOi
import Derived.Deep.Cut
namespace Go.Proofs.Yticecjjlafmclaa
open Go.ChangeShapes Go.WideShapes Go.ChangeAt Go.RowKit
set_option linter.unusedVariables false
set_option linter.unusedSimpArgs false

/-- The positions so far of the numbers above another. -/
def otN (far : Int) (D : List Int) : Nat → List Int
  | 0 => []
  | k + 1 => if far < D.getD k 0 then otN far D k ++ [(k : Int)] else otN far D k
theorem otN_len (far : Int) (D : List Int) : ∀ k, (otN far D k).length ≤ k
  | 0 => by simp [otN]
  | k + 1 => by
    have := otN_len far D k
    unfold otN
    split
    · simp; omega
    · omega
theorem Oi.mono {B B2 : Nat} {x : Value} {L : List Int} {w : World} (h : Oi B x L w) (k : B2 ≤ B) : Oi B2 x L w := by
  rcases h with h | ⟨g, off, cap, cur, e, hB, r⟩
  · exact .inl h
  · exact .inr ⟨g, off, cap, cur, e, Nat.le_trans k hB, r⟩
set_option maxRecDepth 100000 in
set_option maxHeartbeats 8000000 in
theorem trout {B b : Nat} {sz : Int} {L : List Int} (far : Int) (w : World) (hT : Tr B b sz L w) (h2 : 2 ≤ L.length) : Calls Try.prog 24 #[.pointer (some ⟨b, 0, none⟩), .int .i64 far] w fun e w' => ∃ x', e = .returned x' ∧ Oi w.heap.size x' (otN far (dfN (trM L) (trS L) L L.length) L.length) w' ∧ Below w.heap.size w w' := by
  have h64 : (L.length : Int) ≤ 64 := by have := hT.len; have := hT.s2; omega
  have LI := Lib.hid (trline w hT h2)
  have DF := Lib.hid (fun (p0 p1 p2 : Nat) u (k : Below w.heap.size w u) (q : LnC w.heap.size p0 p1 p2 (trM L) (trS L) (L.length : Int) u) => trdiff p0 p1 p2 u (hT.bel k) h2 q)
  have hln := dfN_len (trM L) (trS L) L L.length
  generalize dfN (trM L) (trS L) L L.length = D at *
  replace hln := Lib.hid hln
  replace h64 := Lib.hid h64
  clear hT h2
  go_enter Try.func24, Try.ntmps24
  go_wp2_with fail
  refine LI.out.mono ?_
  rintro e w1 ⟨p0, p1, p2, rfl, hq, hb1⟩
  go_wp2_with fail
  refine (DF.out _ _ _ _ hb1 hq).mono ?_
  rintro e w2 ⟨x', rfl, hO2, hb2⟩
  have hb3 := hb1.trans (hb2.mono hb1.size)
  obtain ⟨ao, cp, rfl, hr, -⟩ := hO2.row
  rw [hln.out]
  have RW := Lib.hid (fun u (k : Below w2.heap.size w2 u) => hr.below k)
  have hz := Lib.hid hb3.size
  replace hb3 := Lib.hid hb3
  clear hq hb1 hb2 hO2 hr LI DF
  go_wp2_with fail
  go_loopw [7, 21] (fun l i v => ∃ (k : Nat) (x : Value), k ≤ L.length ∧ l = x ∧ i = .int .i64 (k : Int) ∧ Below w2.heap.size w2 v ∧ Hid (Oi w2.heap.size x (otN far D k) v)) (fun _ i _ => L.length - (intOf i).toNat)
  case atStart => exact ⟨0, _, by omega, rfl, rfl, Below.refl _ _, Lib.hid (Oi.nil _ _)⟩
  case round =>
    obtain ⟨k, xl, hk, ex, rfl, hb, hO⟩ := hrel
    replace ex := ex.symm
    subst ex
    by_cases hlt : k < L.length
    · obtain ⟨g, off, rfl, -, hc⟩ := (RW.out _ hb).at (show k < D.length by have := hln.out; omega)
      have h1 : (k : Int) < (L.length : Int) := by omega
      have k64 : (k : Int) ≤ 64 := by have := h64.out; omega
      have eO : otN far D (k + 1) = if far < D.getD k 0 then otN far D k ++ [(k : Int)] else otN far D k := rfl
      have q1 : (k : Int) < (D.length : Int) := by have := hln.out; omega
      have q2 : k < D.length := by omega
      have q0 : (0 : Int) ≤ (k : Int) := by omega
      generalize D.getD k 0 = z at *
      by_cases hf : far < z
      · rw [if_pos hf] at eO
        replace eO := Lib.hid eO
        have hA := Lib.hid ((Below.refl wr.heap.size wr).alloc (Nat.le_refl _) (.cells #[.int .i64 (k : Int)] 3))
        have hO6 := Lib.hid (hO.out.bel hA.out)
        have hz6 := Lib.hid (show w2.heap.size ≤ (wr.alloc (.cells #[.int .i64 (k : Int)] 3)).heap.size from by have := hb.size; simp; omega)
        have hb6 := Lib.hid hb
        have ol := Lib.hid (otN_len far D k)
        clear hO hb
        go_upto_region 10 with (first | (at_builtin; refine wpList_append_oi _ rfl (.tmp 29) (.tmp 31) rfl w2.heap.size xl (otN far D k) (k : Int) rfl hO6.out hz6.out _ rfl (by go_simp) (by have := ol.out; omega) ?_; intro x2 w7 hO7 hk7 hx7))
        have hb7 := Lib.hid (hb6.out.trans ((hA.out.mono hb6.out.size).trans (hk7.below hO6.out hz6.out)))
        rw [← eO.out] at hO7
        replace hO7 := Lib.hid hO7
        clear hk7 hx7 hO6 hz6 hA hb6 hc
        go_wp2
        go_roundw
        case rel => exact ⟨k + 1, _, by omega, rfl, by go_num, hb7.out, hO7⟩
        case measure => simp [intOf]; omega
      · rw [if_neg hf] at eO
        rw [← eO] at hO
        replace eO := Lib.hid eO
        go_wp2
        go_roundw
        case rel => exact ⟨k + 1, _, by omega, rfl, by go_num, hb, hO⟩
        case measure => simp [intOf]; omega
    · have hge : (L.length : Int) ≤ (k : Int) := by omega
      obtain rfl : k = L.length := by omega
      clear hge
      go_wp2
      go_ret
      exact ⟨_, rfl, hO.out.mono hz.out, hb3.out.trans (hb.mono hz.out)⟩
end Go.Proofs.Yticecjjlafmclaa
