/- Package stream: rows of packets, what is great, the chapter's example; walked. -/
import Derived.Test.YtpcbnoefgknihaaStm7
import Derived.Test.YtpcbnoefgknihaaMixg
namespace Go.Proofs.Ytpcbnoefgknihaa
open Go.ChangeShapes Go.WideShapes Go.ChangeAt Go.RowKit
set_option linter.unusedVariables false
set_option linter.unusedSimpArgs false
def gr47 (Z : List (List Int)) : Bool := decide (50 < Z.length) || decide (∃ i, i < Z.length ∧ i < 50 ∧ 300 < (Z.getD i []).length)
set_option maxRecDepth 100000 in
set_option maxHeartbeats 4000000 in
theorem lgreat47 (a : Option Addr) (A : Nat → Option Addr) (C : Nat → Nat) (Z : List (List Int)) (cap : Nat) (w : World) (h : GridIs .u8 w a A C Z) (hZ : Z.length ≤ maxLen) (hR : ∀ i, i < Z.length → (Z.getD i []).length ≤ maxLen) :
    Calls Try.prog 31 #[.slice a Z.length cap] w fun e w' => e = .returned (.bool (gr47 Z)) ∧ w = w' := by
  have hL' : (Z.length : Int) ≤ 9223372036854775807 := by unfold maxLen at hZ; omega
  obtain ⟨FB, hFB⟩ : ∃ b, gr47 Z = b := ⟨_, rfl⟩
  have hfb := Lib.hid hFB
  rw [hFB]
  replace hR := Lib.hid hR
  go_enter Try.func31, Try.ntmps31
  go_wp2_with fail
  go_loopw [3] (fun i v => ∃ k : Nat, k ≤ Z.length ∧ k ≤ 50 ∧ i = .int .i64 (k : Int) ∧ w = v ∧ Hid (∀ j, j < k → (Z.getD j []).length ≤ 300)) (fun i _ => Z.length - (intOf i).toNat)
  case atStart => exact ⟨0, by omega, by omega, rfl, rfl, Lib.hid (fun j hj => by omega)⟩
  case round =>
    obtain ⟨k, hk, hk2, rfl, rfl, hA⟩ := hrel
    by_cases hlt : k < Z.length ∧ k < 50
    · obtain ⟨b, off, rfl, -, hc⟩ := h.at hlt.1
      have h1 : (k : Int) < (Z.length : Int) := by omega
      have h2 : (k : Int) < 50 := by omega
      have h0 : 0 ≤ (k : Int) := by omega
      have hr := hR.out k hlt.1
      generalize hm : (Z.getD k []).length = m at *
      have hm' : (m : Int) ≤ 9223372036854775807 := by unfold maxLen at hr; omega
      clear hr
      by_cases e : m ≤ 300
      · have d1 : ¬ (300 : Int) < (m : Int) := by omega
        have hA2 := Lib.hid (show ∀ j, j < k + 1 → (Z.getD j []).length ≤ 300 from fun j hj => by
          by_cases q : j = k
          · subst q; rw [hm]; exact e
          · exact hA.out j (by omega))
        clear e hm hA
        go_wp2
        go_roundw
        case rel => exact ⟨k + 1, by omega, by omega, by go_num, by first | rfl | trivial, hA2⟩
        case measure => simp [intOf]; omega
      · have d1 : (300 : Int) < (m : Int) := by omega
        have hf : FB = true := by
          rw [← hfb.out]
          unfold gr47
          rw [decide_eq_true (show ∃ i, i < Z.length ∧ i < 50 ∧ 300 < (Z.getD i []).length from ⟨k, hlt.1, hlt.2, by omega⟩), Bool.or_true]
        subst hf
        clear e hm hA
        go_wp2
        go_ret
        exact ⟨rfl, rfl⟩
    · have hf : FB = decide (50 < Z.length) := by
        rw [← hfb.out]
        unfold gr47
        by_cases e : 50 < Z.length
        · rw [decide_eq_true e, Bool.true_or]
        · rw [decide_eq_false e, Bool.false_or]
          exact decide_eq_false (fun ⟨i, q1, q2, q3⟩ => by have := hA.out i (by omega); omega)
      have he : (FB = true ∧ (k : Int) = 50 ∧ (50 : Int) < (Z.length : Int)) ∨ (FB = false ∧ ¬ (k : Int) < (Z.length : Int) ∧ ¬ (50 : Int) < (Z.length : Int)) := by
        by_cases e : 50 < Z.length
        · exact .inl ⟨by rw [hf, decide_eq_true e], by omega, by omega⟩
        · exact .inr ⟨by rw [hf, decide_eq_false e], by omega, by omega⟩
      clear hf hA hlt hk hk2
      rcases he with ⟨rfl, e1, e2⟩ | ⟨rfl, e1, e2⟩
      · have d1 : (k : Int) < (Z.length : Int) := by omega
        have d2 : ¬ (k : Int) < 50 := by omega
        clear e1
        go_wp2
        go_ret
        exact ⟨rfl, rfl⟩
      · go_wp2
        go_ret
        exact ⟨rfl, rfl⟩
theorem rowL_app : ∀ (l m : List (List Int)), rowL (l ++ m) = rowL l ++ rowL m
  | [], m => rfl
  | b :: r, m => by simp [rowL, rowL_app r m]
theorem rowL_snoc {Z : List (List Int)} {k : Nat} (h : k < Z.length) : rowL (Z.take (k + 1)) = rowL (Z.take k) ++ pkL (Z.getD k []) := by
  rw [List.take_succ_eq_append_getElem h, rowL_app]
  simp [rowL, List.getD, h]
theorem pkL_len (b : List Int) : (pkL b).length ≤ 2 * b.length + 6 := by
  have := (esL_len (smL b)).2
  rw [smL_len] at this
  unfold pkL
  simp only [List.length_cons, List.length_append, List.length_nil]
  omega
def okRB (Z : List (List Int)) : Bool := decide (∀ i, i < Z.length → 1 ≤ (Z.getD i []).length ∧ (Z.getD i []).length ≤ 64)
/-- What Row hands back. -/
def RowE (R : Bool) (Z : List (List Int)) (e : Ending) (w w' : World) : Prop := match R with
  | true => ∃ x', e = .returned (.tuple #[x', .int .i64 0]) ∧ Og 5 w.heap.size x' (nvals .u8 (rowL Z)) w' ∧ Below w.heap.size w w'
  | false => e = .returned (.tuple #[.slice none 0 0, .int .i64 12]) ∧ Below w.heap.size w w'
set_option maxRecDepth 100000 in
set_option maxHeartbeats 8000000 in
theorem srow (a : Option Addr) (A : Nat → Option Addr) (C : Nat → Nat) (Z : List (List Int)) (cap : Nat) (w : World) (h : GridIs .u8 w a A C Z) (hZ : Z.length ≤ 1000) (hR : ∀ i, i < Z.length → (Z.getD i []).length ≤ maxLen) (hB : ∀ i, i < Z.length → BYL (Z.getD i [])) : Calls Try.prog 35 #[.slice a Z.length cap] w fun e w' => RowE (okRB Z) Z e w w' := by
  obtain ⟨R, eR⟩ : ∃ R, okRB Z = R := ⟨_, rfl⟩
  rw [eR]
  have ER := Lib.hid eR
  obtain ⟨n, en⟩ : ∃ n, Z.length = n := ⟨_, rfl⟩
  have EN := Lib.hid en
  have hn : (n : Int) ≤ 1000 := by omega
  have HN := Lib.hid (show n ≤ 1000 by omega)
  have HR := Lib.hid hR
  have HB := Lib.hid hB
  have HG := Lib.hid (fun u (k : Below w.heap.size w u) => h.below k)
  rw [en]
  clear h hR hB hZ en eR
  obtain ⟨B, eB⟩ : ∃ B, B = w.heap.size := ⟨_, rfl⟩
  have EB := Lib.hid eB
  clear eB
  go_enter Try.func35, Try.ntmps35
  go_wp2_with fail
  go_loopw [4, 11] (fun y i v => ∃ (k : Nat) (x' : Value), k ≤ n ∧ y = x' ∧ i = .int .i64 (k : Int) ∧ Hid (Og 5 B x' (nvals .u8 (rowL (Z.take k))) v) ∧ Hid (Below B w v) ∧ Hid (∀ j, j < k → 1 ≤ (Z.getD j []).length ∧ (Z.getD j []).length ≤ 64) ∧ Hid ((rowL (Z.take k)).length ≤ 134 * k)) (fun _ i _ => n - (intOf i).toNat)
  case atStart => exact ⟨0, _, by omega, rfl, rfl, Lib.hid (Og.nil _ _ _), Lib.hid (by rw [EB.out]; exact Below.refl _ _), Lib.hid (fun j hj => by omega), Lib.hid (by simp [rowL])⟩
  case round =>
    obtain ⟨k, x', hk, rfl, rfl, hO, hK, hJ, hLn⟩ := hrel
    generalize wr = v at *
    by_cases hlt : k < n
    · have hkl : k < Z.length := by rw [EN.out]; exact hlt
      have h1 : (k : Int) < (n : Int) := by omega
      have h0 : 0 ≤ (k : Int) := by omega
      have G1 := HG.out v (by rw [← EB.out]; exact hK.out)
      obtain ⟨b, off, rfl, -, hc⟩ := G1.at hkl
      have rk := G1.rows k hkl
      have bk := HB.out k hkl
      have lk := HR.out k hkl
      have HBv := Lib.hid (show B ≤ v.heap.size from by have := EB.out; have := hK.out.size; omega)
      by_cases hok : 1 ≤ (Z.getD k []).length ∧ (Z.getD k []).length ≤ 64
      · have PKC := Lib.hid (spack (A k) (C k) (Z.getD k []) v rk hok.1 hok.2 bk)
        have RSN := Lib.hid (rowL_snoc hkl)
        have PL := Lib.hid (pkL_len (Z.getD k []))
        have hJ2 := Lib.hid (show ∀ j, j < k + 1 → 1 ≤ (Z.getD j []).length ∧ (Z.getD j []).length ≤ 64 from fun j hj => by
          by_cases q : j = k
          · subst q; exact hok
          · exact hJ.out j (by omega))
        have hLn2 := Lib.hid (show (rowL (Z.take (k + 1))).length ≤ 134 * (k + 1) by rw [RSN.out, List.length_append]; have := hLn.out; have := PL.out; omega)
        have LEN := Lib.hid (show (nvals .u8 (rowL (Z.take k))).length + (nvals .u8 (pkL (Z.getD k []))).length ≤ 1000000 by rw [nvals_len, nvals_len]; have := hLn.out; have := PL.out; have := HN.out; omega)
        clear hJ hLn G1 rk bk lk hok hkl PL
        generalize (Z.getD k []).length = zl at *
        generalize pkL (Z.getD k []) = PKB at *
        generalize A k = ak at *
        generalize C k = ck at *
        go_wp2_with fail
        refine PKC.out.mono ?_
        rintro e w1 ⟨x1, rfl, hO1, hb1⟩
        clear PKC
        have hO2 := Lib.hid (hO.out.bel hb1)
        have hz2 := Lib.hid (show B ≤ w1.heap.size from Nat.le_trans HBv.out hb1.size)
        have SR := Lib.hid (hO1.src (t := 22) Try.underlying22 (nvals_one _ _))
        have hb2 := Lib.hid (hK.out.trans (hb1.mono HBv.out))
        clear hO1 hb1 hO hK
        go_upto_region 9 with (first | (at_builtin; refine wpList_append_og _ rfl (.tmp 23) (.tmp 24) 22 22 rfl 5 (.int .u8 0) 1 Try.underlying22 (by kernel_rfl) rfl B u4 _ rfl hO2.out hz2.out _ _ _ rfl SR.out (by have := LEN.out; unfold maxLen; omega) (by have := LEN.out; omega) ?_; intro x2 w5 hO5 hK5 hN5))
        have hO8 := Lib.hid (show Og 5 B x2 (nvals .u8 (rowL (Z.take (k + 1)))) w5 by rw [RSN.out, nvals_app]; exact hO5)
        have hK8 := Lib.hid (hb2.out.trans (hK5.below hO2.out hz2.out))
        clear hO5 hK5 hN5 hO2 hz2 SR hb2
        go_wp2
        go_roundw
        case rel => exact ⟨k + 1, x2, by omega, rfl, by first | rfl | go_num, hO8, hK8, hJ2, hLn2⟩
        case measure => simp [intOf]; omega
      · have PN := Lib.hid (spack_no (A k) (Z.getD k []).length (C k) v (by omega) lk)
        obtain rfl : R = false := by rw [← ER.out]; exact decide_eq_false (fun q => hok (q k hkl))
        clear G1 rk bk lk hok hkl
        generalize (Z.getD k []).length = zl at *
        generalize A k = ak at *
        generalize C k = ck at *
        go_wp2_with fail
        refine PN.out.mono ?_
        rintro e w1 ⟨rfl, rfl⟩
        clear PN
        go_wp2
        go_ret2
        exact ⟨rfl, by rw [← EB.out]; exact hK.out⟩
    · obtain rfl : k = n := by omega
      obtain rfl : R = true := by rw [← ER.out]; exact decide_eq_true (fun i hi => hJ.out i (by rw [← EN.out]; exact hi))
      have hO8 := Lib.hid (show Og 5 w.heap.size _ (nvals .u8 (rowL Z)) v by have := hO.out; rwa [show Z.take k = Z by rw [← EN.out, List.take_length], EB.out] at this)
      clear hlt hO
      have h1 : ¬ (k : Int) < (k : Int) := by omega
      go_wp2
      go_ret2
      exact ⟨_, rfl, hO8.out, by rw [← EB.out]; exact hK.out⟩
theorem pk126 : pkL [126] = [126, 125, 94, 125, 94, 169, 126] := by decide
set_option maxRecDepth 100000 in
set_option maxHeartbeats 4000000 in
theorem lives47 (w : World) : Calls Try.prog 32 #[] w fun e w' => e = .returned (.bool true) ∧ Below w.heap.size w w' := by
  have hA := (Below.refl w.heap.size w).alloc (Nat.le_refl _) (.cells #[.int .u8 126] 5)
  obtain ⟨a0, c0, e0, -, r0, -, -⟩ := (show Og 5 w.heap.size (.slice (some ⟨w.heap.size, 0, none⟩) 1 1) (nvals .u8 [126]) (w.alloc (.cells #[.int .u8 126] 5)) from Og.new 5 w [.int .u8 126]).rowIs
  injection e0 with e1 e2 e3
  subst e1
  have P := spack (some ⟨w.heap.size, 0, none⟩) 1 [126] _ r0 (by decide) (by decide) (fun b hb => by simp at hb; omega)
  rw [pk126] at P
  have P2 := Lib.hid (show Calls Try.prog 33 #[.slice (some ⟨w.heap.size, 0, none⟩) 1 1] (w.alloc (.cells #[.int .u8 126] 5)) _ from P)
  replace hA := Lib.hid hA
  clear P r0 e2 e3
  go_enter Try.func32, Try.ntmps32
  go_wp2_with fail
  refine P2.out.mono ?_
  rintro e w1 ⟨x1, rfl, hO, hb⟩
  obtain ⟨a1, c1, rfl, -, r1, hn, hs⟩ := hO.rowIs
  cases a1 with
  | none => have := (hn rfl).1; simp at this
  | some a1 =>
    obtain ⟨g, o, sp⟩ := a1
    have h1 : sp = none := (hs _ rfl).1
    subst h1
    have q0 := r1.c (i := 0) (by decide)
    have q1 := r1.c (i := 1) (by decide)
    have q2 := r1.c (i := 2) (by decide)
    have q6 := r1.c (i := 6) (by decide)
    rw [Nat.add_zero] at q0
    rw [show ([126, 125, 94, 125, 94, 169, 126] : List Int).getD 0 0 = 126 from rfl] at q0
    rw [show ([126, 125, 94, 125, 94, 169, 126] : List Int).getD 1 0 = 125 from rfl] at q1
    rw [show ([126, 125, 94, 125, 94, 169, 126] : List Int).getD 2 0 = 94 from rfl] at q2
    rw [show ([126, 125, 94, 125, 94, 169, 126] : List Int).getD 6 0 = 126 from rfl] at q6
    have hb2 := Lib.hid (hA.out.trans (hb.mono (by simp)))
    clear hO hb r1 hn hs P2 hA
    go_wp2
    go_ret
    exact ⟨rfl, hb2.out⟩
end Go.Proofs.Ytpcbnoefgknihaa
