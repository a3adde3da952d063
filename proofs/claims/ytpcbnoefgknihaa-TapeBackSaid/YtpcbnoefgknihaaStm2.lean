/- Package stream: escapes undone; walked. -/
import Derived.Test.YtpcbnoefgknihaaStm1
namespace Go.Proofs.Ytpcbnoefgknihaa
open Go.ChangeShapes Go.WideShapes Go.ChangeAt Go.RowKit
set_option linter.unusedVariables false
set_option linter.unusedSimpArgs false
theorem drop_at {l : List Int} {k : Nat} (h : k < l.length) : l.drop k = l.getD k 0 :: l.drop (k + 1) := by
  rw [List.drop_eq_getElem_cons h]; simp [List.getD, h]
theorem RowIs.c {k : IntKind} {w : World} {g off : Nat} {l : List Int} (h : RowIs k w (some ⟨g, off, none⟩) l) {i : Nat} (hi : i < l.length) : w.cell? ⟨g, off + i, none⟩ = some (.int k (l.getD i 0)) := by
  obtain ⟨b, o, e, -, hc⟩ := h.at hi
  injection e with e
  injection e with e1 e2
  subst e1 e2
  exact hc
set_option maxRecDepth 100000 in
set_option maxHeartbeats 8000000 in
theorem sunesc (a : Option Addr) (cap : Nat) (l : List Int) (w : World) (hr : RowIs .u8 w a l) (hL : l.length ≤ 1000) : Calls Try.prog 64 #[.slice a l.length cap] w fun e w' => ∃ x', e = .returned (.tuple #[x', .bool (unF l).isSome]) ∧ Og 5 w.heap.size x' (nvals .u8 ((unF l).getD [])) w' ∧ Below w.heap.size w w' := by
  obtain ⟨B, eB⟩ : ∃ B, w.heap.size = B := ⟨_, rfl⟩
  have EB := Lib.hid eB
  rw [eB]
  have HR := Lib.hid (fun u (k : Below B w u) => show RowIs .u8 u a l from hr.below (by rw [eB]; exact k))
  have hL2 : (l.length : Int) ≤ 1000 := by omega
  have HL := Lib.hid hL
  clear hr eB
  have x94 : bits .xor .u8 94 32 = 126 := by decide
  have x93 : bits .xor .u8 93 32 = 125 := by decide
  obtain ⟨n, en⟩ : ∃ n, l.length = n := ⟨_, rfl⟩
  have EN := Lib.hid en
  rw [en]
  rw [en] at hL2
  clear en hL
  obtain ⟨UL, hUL⟩ : ∃ U, unF l = U := ⟨_, rfl⟩
  rw [hUL]
  replace hUL := Lib.hid hUL
  go_enter Try.func64, Try.ntmps64
  go_wp2_with fail
  go_loopw [4, 5] (fun y i v => ∃ (k : Nat) (x' : Value) (A : List Int), k ≤ n ∧ y = x' ∧ i = .int .i64 (k : Int) ∧ Hid (UL = (unF (l.drop k)).map (A ++ ·)) ∧ Hid (A.length ≤ k) ∧ Hid (Og 5 B x' (nvals .u8 A) v) ∧ Hid (Below B w v)) (fun _ i _ => n - (intOf i).toNat)
  case atStart => exact ⟨0, _, [], by omega, rfl, rfl, Lib.hid (by rw [List.drop_zero, hUL.out]; cases UL <;> simp), Lib.hid (by simp), Lib.hid (Og.nil _ _ _), Lib.hid (Below.refl _ _)⟩
  case round =>
    obtain ⟨k, x', A, hk, rfl, rfl, hU, hA8, hO, hK⟩ := hrel
    generalize wr = v at *
    have HBv := Lib.hid (show B ≤ v.heap.size from by have := EB.out; have := hK.out.size; omega)
    have LEN := Lib.hid (show (nvals .u8 A).length + 1 ≤ 1000000 by rw [nvals_len]; have := hA8.out; have := HL.out; have := EN.out; omega)
    have R := HR.out v hK.out
    by_cases hlt : k < n
    · have hkl : k < l.length := by rw [EN.out]; exact hlt
      have h1 : (k : Int) < (n : Int) := by omega
      have h0 : 0 ≤ (k : Int) := by omega
      obtain ⟨b, off, rfl, -, hc⟩ := R.at hkl
      have DR := drop_at hkl
      have s1 : IntKind.i64.wrap ((k : Int) + 1) = (k : Int) + 1 := by rw [IntKind.wrap_i64]; omega
      by_cases hx : l.getD k 0 = 125
      · rw [hx] at hc DR
        have s2 : IntKind.i64.wrap ((k : Int) + 1 + 1) = (k : Int) + 1 + 1 := by rw [IntKind.wrap_i64]; omega
        by_cases hend : k + 1 = n
        · have q1 : ((k : Int) + 1 == (n : Int)) = true := by simp; omega
          have hN : UL = none := by rw [hU.out, DR, List.drop_eq_nil_of_le (by rw [EN.out]; omega), unF_end]; rfl
          subst hN
          have e3 : ((k : Int) + 1) = (n : Int) := by omega
          clear DR hU hend hx R hkl
          go_wp2
          go_ret2
          exact ⟨_, rfl, Og.nil _ _ _, hK.out⟩
        · have q1 : ((k : Int) + 1 == (n : Int)) = false := beq_eq_false_iff_ne.2 (by omega)
          have q2 : (k : Int) + 1 < (n : Int) := by omega
          have q3 : 0 ≤ (k : Int) + 1 := by omega
          have q4 : (k : Int) + 1 ≠ (n : Int) := by omega
          have q5 : ((k : Int) + 1).toNat = k + 1 := by omega
          have hkl2 : k + 1 < l.length := by rw [EN.out]; omega
          have DR2 := drop_at hkl2
          have hc2 := R.c hkl2
          by_cases hy : l.getD (k + 1) 0 = 94
          · rw [hy] at hc2 DR2
            have hU2 := Lib.hid (show UL = (unF (l.drop (k + 2))).map ((A ++ [126]) ++ ·) by rw [hU.out, DR, DR2, unF_94]; cases unF (l.drop (k + 1 + 1)) <;> simp)
            clear DR DR2 hU hx hy R hkl hkl2 hend
            have hA := Lib.hid ((Below.refl v.heap.size v).alloc (Nat.le_refl _) (.cells #[.int .u8 126] 5))
            have hO3 := Lib.hid (hO.out.bel hA.out)
            have hz3 := Lib.hid (show B ≤ (v.alloc (.cells #[.int .u8 126] 5)).heap.size from by have := HBv.out; simp; omega)
            have SR := Lib.hid (src_new 22 5 5 Try.underlying22 v [.int .u8 126] (fun u hu => by simp at hu; subst hu; rfl))
            clear hO
            go_upto_region 4 with (first | (at_builtin; refine wpList_append_og _ rfl (.tmp 44) (.tmp 46) 22 22 rfl 5 (.int .u8 0) 1 Try.underlying22 (by kernel_rfl) rfl B u4 _ rfl hO3.out hz3.out _ 1 _ rfl SR.out (by have := LEN.out; unfold maxLen; omega) (by have := LEN.out; omega) ?_; intro x2 w5 hO5 hK5 hN5))
            have hK8 := Lib.hid (hK.out.trans ((hA.out.mono HBv.out).trans (hK5.below hO3.out hz3.out)))
            have hO8 := Lib.hid (show Og 5 B x2 (nvals .u8 (A ++ [126])) w5 by rw [nvals_app]; exact hO5)
            clear hO5 hK5 hN5 hA hO3 hz3 SR hK
            go_wp2
            go_roundw
            case rel => exact ⟨k + 2, x2, A ++ [126], by omega, rfl, by first | rfl | go_num | (simp; try omega), hU2, by have := hA8.out; exact Lib.hid (by simp; omega), hO8, hK8⟩
            case measure => simp [intOf]; omega
          · by_cases hy2 : l.getD (k + 1) 0 = 93
            · rw [hy2] at hc2 DR2
              have hU2 := Lib.hid (show UL = (unF (l.drop (k + 2))).map ((A ++ [125]) ++ ·) by rw [hU.out, DR, DR2, unF_93]; cases unF (l.drop (k + 1 + 1)) <;> simp)
              clear DR DR2 hU hx hy hy2 R hkl hkl2 hend
              have hA := Lib.hid ((Below.refl v.heap.size v).alloc (Nat.le_refl _) (.cells #[.int .u8 125] 5))
              have hO3 := Lib.hid (hO.out.bel hA.out)
              have hz3 := Lib.hid (show B ≤ (v.alloc (.cells #[.int .u8 125] 5)).heap.size from by have := HBv.out; simp; omega)
              have SR := Lib.hid (src_new 22 5 5 Try.underlying22 v [.int .u8 125] (fun u hu => by simp at hu; subst hu; rfl))
              clear hO
              go_upto_region 4 with (first | (at_builtin; refine wpList_append_og _ rfl (.tmp 44) (.tmp 46) 22 22 rfl 5 (.int .u8 0) 1 Try.underlying22 (by kernel_rfl) rfl B u4 _ rfl hO3.out hz3.out _ 1 _ rfl SR.out (by have := LEN.out; unfold maxLen; omega) (by have := LEN.out; omega) ?_; intro x2 w5 hO5 hK5 hN5))
              have hK8 := Lib.hid (hK.out.trans ((hA.out.mono HBv.out).trans (hK5.below hO3.out hz3.out)))
              have hO8 := Lib.hid (show Og 5 B x2 (nvals .u8 (A ++ [125])) w5 by rw [nvals_app]; exact hO5)
              clear hO5 hK5 hN5 hA hO3 hz3 SR hK
              go_wp2
              go_roundw
              case rel => exact ⟨k + 2, x2, A ++ [125], by omega, rfl, by first | rfl | go_num | (simp; try omega), hU2, by have := hA8.out; exact Lib.hid (by simp; omega), hO8, hK8⟩
              case measure => simp [intOf]; omega
            · have hN : UL = none := by rw [hU.out, DR, DR2, unF_bad hy hy2]; rfl
              subst hN
              have p1 : (l.getD (k + 1) 0 == 94) = false := beq_eq_false_iff_ne.2 hy
              have p2 : (l.getD (k + 1) 0 == 93) = false := beq_eq_false_iff_ne.2 hy2
              have p3 : (l.getD (k + 1) 0 != 94) = true := bne_iff_ne.2 hy
              have p4 : (l.getD (k + 1) 0 != 93) = true := bne_iff_ne.2 hy2
              generalize l.getD (k + 1) 0 = y at *
              clear DR DR2 hU hx R hkl hkl2 hend
              go_wp2
              go_ret2
              exact ⟨_, rfl, Og.nil _ _ _, hK.out⟩
      · have p1 : (l.getD k 0 == 125) = false := beq_eq_false_iff_ne.2 hx
        have hU2 := Lib.hid (show UL = (unF (l.drop (k + 1))).map ((A ++ [l.getD k 0]) ++ ·) by rw [hU.out, DR, unF_plain hx]; cases unF (l.drop (k + 1)) <;> simp)
        generalize l.getD k 0 = x at *
        clear DR hU R hkl
        have hA := Lib.hid ((Below.refl v.heap.size v).alloc (Nat.le_refl _) (.cells #[.int .u8 x] 5))
        have hO3 := Lib.hid (hO.out.bel hA.out)
        have hz3 := Lib.hid (show B ≤ (v.alloc (.cells #[.int .u8 x] 5)).heap.size from by have := HBv.out; simp; omega)
        have SR := Lib.hid (src_new 22 5 5 Try.underlying22 v [.int .u8 x] (fun u hu => by simp at hu; subst hu; rfl))
        clear hO
        go_upto_region 4 with (first | (at_builtin; refine wpList_append_og _ rfl (.tmp 44) (.tmp 46) 22 22 rfl 5 (.int .u8 0) 1 Try.underlying22 (by kernel_rfl) rfl B u4 _ rfl hO3.out hz3.out _ 1 _ rfl SR.out (by have := LEN.out; unfold maxLen; omega) (by have := LEN.out; omega) ?_; intro x2 w5 hO5 hK5 hN5))
        have hK8 := Lib.hid (hK.out.trans ((hA.out.mono HBv.out).trans (hK5.below hO3.out hz3.out)))
        have hO8 := Lib.hid (show Og 5 B x2 (nvals .u8 (A ++ [x])) w5 by rw [nvals_app]; exact hO5)
        clear hO5 hK5 hN5 hA hO3 hz3 SR hK
        go_wp2
        go_roundw
        case rel => exact ⟨k + 1, x2, A ++ [x], by omega, rfl, by first | rfl | go_num | (simp; try omega), hU2, by have := hA8.out; exact Lib.hid (by simp; omega), hO8, hK8⟩
        case measure => simp [intOf]; omega
    · obtain rfl : k = n := by omega
      have hN : UL = some A := by rw [hU.out, List.drop_eq_nil_of_le (by rw [EN.out]; omega)]; simp [unF]
      subst hN
      clear hlt hU R
      have h1 : ¬ (k : Int) < (k : Int) := by omega
      go_wp2
      go_ret2
      exact ⟨_, rfl, hO.out, hK.out⟩
end Go.Proofs.Ytpcbnoefgknihaa
