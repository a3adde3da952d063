/- Package stream: wrapping in the document, rows of packets, the chapter's example; walked. -/
import Derived.Test.YtpcbnoefgknihaaStm6
namespace Go.Proofs.Ytpcbnoefgknihaa
open Go.ChangeShapes Go.WideShapes Go.ChangeAt Go.RowKit
set_option linter.unusedVariables false
set_option linter.unusedSimpArgs false
set_option maxRecDepth 100000 in
set_option maxHeartbeats 8000000 in
theorem rpack (a : Option Addr) (cap : Nat) (L : List Int) (w : World) (hr : RowIs .u8 w a L) (hL : L.length ≤ 64) (hB : BYL L) : Calls Try.prog 34 #[.slice a L.length cap] w fun e w' => ∃ x', e = .returned x' ∧ Og 5 w.heap.size x' (nvals .u8 (pkL L)) w' ∧ Below w.heap.size w w' := by
  have TS := Lib.hid (rsum a cap L w hr (by unfold maxLen; omega) hB.by8)
  obtain ⟨B, eB⟩ : ∃ B, w.heap.size = B := ⟨_, rfl⟩
  have EB := Lib.hid eB
  rw [eB]
  have HL := Lib.hid hL
  have HR := Lib.hid (fun u (k : Below w.heap.size w u) => hr.below k)
  have ZD := Lib.hid (show smL L = L ++ [((crI L / 256 : Nat) : Int), ((crI L % 256 : Nat) : Int)] from rfl)
  have ZL := Lib.hid (smL_len L)
  have PD := Lib.hid (show pkL L = 126 :: (esL (smL L) ++ [126]) from rfl)
  have SLT := crI_lt L
  obtain ⟨n, en⟩ : ∃ n, L.length = n := ⟨_, rfl⟩
  have EN := Lib.hid en
  rw [en] at TS ⊢
  generalize crI L = S at *
  obtain ⟨y0, ey0⟩ : ∃ y : Nat, y = S / 256 := ⟨_, rfl⟩
  obtain ⟨y1, ey1⟩ : ∃ y : Nat, y = S % 256 := ⟨_, rfl⟩
  have j1 : (S : Int).tdiv 256 = (y0 : Int) := by rw [Int.tdiv_eq_ediv_of_nonneg (by omega)]; omega
  have j1a : IntKind.i64.wrap (y0 : Int) = (y0 : Int) := by rw [IntKind.wrap_i64]; omega
  have j2 : IntKind.u8.wrap (y0 : Int) = (y0 : Int) := by rw [IntKind.wrap_u8]; omega
  have j3 : (S : Int).tmod 256 = (y1 : Int) := by rw [Int.tmod_eq_emod_of_nonneg (by omega)]; omega
  have j4 : IntKind.u8.wrap (y1 : Int) = (y1 : Int) := by rw [IntKind.wrap_u8]; omega
  rw [← ey0, ← ey1] at ZD
  replace ZD := Lib.hid ZD
  obtain ⟨PK, ePK⟩ : ∃ P, pkL L = P := ⟨_, rfl⟩
  rw [ePK] at PD ⊢
  generalize smL L = Z at *
  replace PD := Lib.hid PD
  replace ZL := Lib.hid ZL
  clear hr hB hL ey0 ey1 SLT ePK en eB
  have hE := Lib.hid ((Below.refl w.heap.size w).alloc (Nat.le_refl _) (.cells #[] 5))
  have hOE := Lib.hid (Og.new 5 w [])
  have SRE := Lib.hid ((HR.out _ hE.out).src (t := 22) Try.underlying22 cap)
  rw [EN.out] at SRE
  replace SRE := Lib.hid SRE
  have hzE := Lib.hid (show w.heap.size ≤ (w.alloc (.cells #[] 5)).heap.size from by simp)
  go_enter Try.func34, Try.ntmps34
  go_wp2_with fail
  refine TS.out.mono ?_
  rintro e w1 ⟨rfl, rfl⟩
  clear TS
  go_upto_region 3 with (first | (at_builtin; refine wpList_append_og _ rfl (.tmp 9) (.tmp 10) 22 22 rfl 5 (.int .u8 0) 1 Try.underlying22 (by kernel_rfl) rfl w.heap.size _ _ rfl hOE.out hzE.out _ _ _ rfl SRE.out.out (by have := HL.out; have := EN.out; simp; unfold maxLen; omega) (by have := HL.out; have := EN.out; simp; omega) ?_; intro x1 w2 hO2 hK2 hN2; have hb2 := Lib.hid (hE.out.trans (hK2.below hOE.out hzE.out)); have hO := Lib.hid (show Og 5 w.heap.size x1 (nvals .u8 L) w2 from (by simpa using hO2)); have HBv := Lib.hid (show B ≤ w2.heap.size from (by have := EB.out; have := hb2.out.size; omega)); have LEN := Lib.hid (show (nvals .u8 L).length + 2 ≤ 1000000 from (by rw [nvals_len]; have := HL.out; omega)); have hA := Lib.hid ((Below.refl w2.heap.size w2).alloc (Nat.le_refl _) (.cells #[.int .u8 (y0 : Int), .int .u8 (y1 : Int)] 5)); have hO3 := Lib.hid (hO.out.bel hA.out); have hz3 := Lib.hid (show w.heap.size ≤ (w2.alloc (.cells #[.int .u8 (y0 : Int), .int .u8 (y1 : Int)] 5)).heap.size from (by have := hb2.out.size; simp; omega)); have SR := Lib.hid (src_new 22 5 5 Try.underlying22 w2 [.int .u8 (y0 : Int), .int .u8 (y1 : Int)] (fun u hu => (by simp at hu; rcases hu with rfl | rfl <;> rfl))); clear hO2 hK2 hN2 hE hOE SRE hzE) | (at_builtin; refine wpList_append_og _ rfl (.tmp 11) (.tmp 18) 22 22 rfl 5 (.int .u8 0) 1 Try.underlying22 (by kernel_rfl) rfl w.heap.size _ _ rfl hO3.out hz3.out _ 2 _ rfl SR.out (by have := LEN.out; unfold maxLen; omega) (by have := LEN.out; omega) ?_; intro x2 w5 hO5 hK5 hN5; have hO6 : Og 5 w.heap.size x2 (nvals .u8 Z) w5 := (by rw [ZD.out.out, nvals_app]; exact hO5); obtain ⟨az, cz, rfl, hcz, hrz, hnz, hsz⟩ := hO6.rowIs))
  have hb5 := Lib.hid (hb2.out.trans ((hA.out.mono (by have := hb2.out.size; omega)).trans (hK5.below hO3.out hz3.out)))
  have bz := Lib.hid (show ∀ b, az = some b → b.block < w5.heap.size from fun b hb => (hO6.lt (g := b.block) (by rw [hb]; rfl)).2)
  have hF := Lib.hid (Og.new 5 w5 [.int .u8 126])
  have hAF := Lib.hid ((Below.refl w5.heap.size w5).alloc (Nat.le_refl _) (.cells #[.int .u8 126] 5))
  have hF3 := Lib.hid (show Og 5 B (.slice (some ⟨w5.heap.size, 0, none⟩) 1 1) (nvals .u8 (126 :: esL (Z.take 0))) (w5.alloc (.cells #[.int .u8 126] 5)) from hF.out.mono (by have := EB.out; have := hb5.out.size; omega))
  have hZ3 := Lib.hid (show SepK .u8 (.slice (some ⟨w5.heap.size, 0, none⟩) 1 1) az Z (w5.alloc (.cells #[.int .u8 126] 5)) from ⟨hrz.below hAF.out, fun b hb e => by have h1 := bz.out b hb; injection e with e; have e : w5.heap.size = b.block := e; omega, fun b hb => by have := bz.out b hb; simp; omega⟩)
  have hK3 := Lib.hid (show Below B w (w5.alloc (.cells #[.int .u8 126] 5)) from by rw [← EB.out]; exact hb5.out.trans (hAF.out.mono hb5.out.size))
  obtain ⟨m, em⟩ : ∃ m, Z.length = m := ⟨_, rfl⟩
  have EM := Lib.hid em
  have mB : (m : Int) ≤ 66 := by have := ZL.out.out; have := EN.out; have := HL.out; omega
  rw [em] at hcz ⊢
  clear hO5 hK5 hN5 hO6 hrz hnz hsz hA hO3 hz3 SR hO hb2 hb5 bz hF hAF em HBv LEN hcz
  go_wp2_with fail
  go_loopw [5, 6] (fun y i v => ∃ (k : Nat) (x' : Value), k ≤ m ∧ y = x' ∧ i = .int .i64 (k : Int) ∧ Hid (Og 5 B x' (nvals .u8 (126 :: esL (Z.take k))) v) ∧ Hid (SepK .u8 x' az Z v) ∧ Hid (Below B w v)) (fun _ i _ => m - (intOf i).toNat)
  case atStart => exact ⟨0, _, by omega, rfl, rfl, hF3, hZ3, hK3⟩
  case round =>
    clear hF3 hZ3 hK3
    obtain ⟨k, x', hk, rfl, rfl, hO, hZ, hK⟩ := hrel
    generalize wr = v at *
    have HBv := Lib.hid (show B ≤ v.heap.size from by have := EB.out; have := hK.out.size; omega)
    have LEN := Lib.hid (show (nvals .u8 (126 :: esL (Z.take k))).length + 2 ≤ 1000000 by rw [nvals_len]; have h1 := (esL_len (Z.take k)).2; have h2 : (Z.take k).length ≤ k := (by rw [List.length_take]; omega); simp only [List.length_cons]; omega)
    by_cases hlt : k < m
    · have hkl : k < Z.length := by rw [EM.out]; exact hlt
      have h1 : (k : Int) < (m : Int) := by omega
      have h0 : 0 ≤ (k : Int) := by omega
      obtain ⟨zb, zo, rfl, -, hc⟩ := hZ.out.1.at hkl
      have ES := esL_snoc Z k hkl
      generalize Z.getD k 0 = x at *
      by_cases hx : x = 126
      · subst hx
        have ES2 := Lib.hid (show nvals .u8 (126 :: esL (Z.take (k + 1))) = nvals .u8 (126 :: esL (Z.take k)) ++ [.int .u8 125, .int .u8 94] by rw [ES]; simp [nvals, esB])
        clear ES hkl
        have hA := Lib.hid ((Below.refl v.heap.size v).alloc (Nat.le_refl _) (.cells #[.int .u8 125, .int .u8 94] 5))
        have hO3 := Lib.hid (hO.out.bel hA.out)
        have hz3 := Lib.hid (show B ≤ (v.alloc (.cells #[.int .u8 125, .int .u8 94] 5)).heap.size from by have := HBv.out; simp; omega)
        have SR := Lib.hid (src_new 22 5 5 Try.underlying22 v [.int .u8 125, .int .u8 94] (fun u hu => by simp at hu; rcases hu with rfl | rfl <;> rfl))
        clear hO
        go_upto_region 6 with (first | (at_builtin; refine wpList_append_og _ rfl (.tmp 40) (.tmp 41) 22 22 rfl 5 (.int .u8 0) 1 Try.underlying22 (by kernel_rfl) rfl B u5 _ rfl hO3.out hz3.out _ 2 _ rfl SR.out (by have := LEN.out; unfold maxLen; omega) (by have := LEN.out; omega) ?_; intro x2 w5 hO5 hK5 hN5))
        have hZ8 := Lib.hid ((hZ.out.bel hA.out).next hK5 hN5)
        have hK8 := Lib.hid (hK.out.trans ((hA.out.mono HBv.out).trans (hK5.below hO3.out hz3.out)))
        have hO8 := Lib.hid (show Og 5 B x2 (nvals .u8 (126 :: esL (Z.take (k + 1)))) w5 by rw [ES2.out]; exact hO5)
        clear hO5 hK5 hN5 hA hO3 hz3 SR hK hZ
        go_wp2
        go_roundw
        case rel => exact ⟨k + 1, x2, by omega, rfl, by first | rfl | go_num, hO8, hZ8, hK8⟩
        case measure => simp [intOf]; omega
      · by_cases hx2 : x = 125
        · subst hx2
          have ES2 := Lib.hid (show nvals .u8 (126 :: esL (Z.take (k + 1))) = nvals .u8 (126 :: esL (Z.take k)) ++ [.int .u8 125, .int .u8 93] by rw [ES]; simp [nvals, esB])
          clear ES hkl hx
          have hA := Lib.hid ((Below.refl v.heap.size v).alloc (Nat.le_refl _) (.cells #[.int .u8 125, .int .u8 93] 5))
          have hO3 := Lib.hid (hO.out.bel hA.out)
          have hz3 := Lib.hid (show B ≤ (v.alloc (.cells #[.int .u8 125, .int .u8 93] 5)).heap.size from by have := HBv.out; simp; omega)
          have SR := Lib.hid (src_new 22 5 5 Try.underlying22 v [.int .u8 125, .int .u8 93] (fun u hu => by simp at hu; rcases hu with rfl | rfl <;> rfl))
          clear hO
          go_upto_region 6 with (first | (at_builtin; refine wpList_append_og _ rfl (.tmp 45) (.tmp 46) 22 22 rfl 5 (.int .u8 0) 1 Try.underlying22 (by kernel_rfl) rfl B u5 _ rfl hO3.out hz3.out _ 2 _ rfl SR.out (by have := LEN.out; unfold maxLen; omega) (by have := LEN.out; omega) ?_; intro x2 w5 hO5 hK5 hN5))
          have hZ8 := Lib.hid ((hZ.out.bel hA.out).next hK5 hN5)
          have hK8 := Lib.hid (hK.out.trans ((hA.out.mono HBv.out).trans (hK5.below hO3.out hz3.out)))
          have hO8 := Lib.hid (show Og 5 B x2 (nvals .u8 (126 :: esL (Z.take (k + 1)))) w5 by rw [ES2.out]; exact hO5)
          clear hO5 hK5 hN5 hA hO3 hz3 SR hK hZ
          go_wp2
          go_roundw
          case rel => exact ⟨k + 1, x2, by omega, rfl, by first | rfl | go_num, hO8, hZ8, hK8⟩
          case measure => simp [intOf]; omega
        · have ES2 := Lib.hid (show nvals .u8 (126 :: esL (Z.take (k + 1))) = nvals .u8 (126 :: esL (Z.take k)) ++ [.int .u8 x] by rw [ES]; simp [nvals, esB, hx, hx2])
          have p1 : (x == 126) = false := beq_eq_false_iff_ne.2 hx
          have p2 : (x == 125) = false := beq_eq_false_iff_ne.2 hx2
          clear ES hkl
          have hA := Lib.hid ((Below.refl v.heap.size v).alloc (Nat.le_refl _) (.cells #[.int .u8 x] 5))
          have hO3 := Lib.hid (hO.out.bel hA.out)
          have hz3 := Lib.hid (show B ≤ (v.alloc (.cells #[.int .u8 x] 5)).heap.size from by have := HBv.out; simp; omega)
          have SR := Lib.hid (src_new 22 5 5 Try.underlying22 v [.int .u8 x] (fun u hu => by simp at hu; subst hu; rfl))
          clear hO
          go_upto_region 6 with (first | (at_builtin; refine wpList_append_og _ rfl (.tmp 31) (.tmp 36) 22 22 rfl 5 (.int .u8 0) 1 Try.underlying22 (by kernel_rfl) rfl B u5 _ rfl hO3.out hz3.out _ 1 _ rfl SR.out (by have := LEN.out; unfold maxLen; omega) (by have := LEN.out; omega) ?_; intro x2 w5 hO5 hK5 hN5))
          have hZ8 := Lib.hid ((hZ.out.bel hA.out).next hK5 hN5)
          have hK8 := Lib.hid (hK.out.trans ((hA.out.mono HBv.out).trans (hK5.below hO3.out hz3.out)))
          have hO8 := Lib.hid (show Og 5 B x2 (nvals .u8 (126 :: esL (Z.take (k + 1)))) w5 by rw [ES2.out]; exact hO5)
          clear hO5 hK5 hN5 hA hO3 hz3 SR hK hZ
          go_wp2
          go_roundw
          case rel => exact ⟨k + 1, x2, by omega, rfl, by first | rfl | go_num, hO8, hZ8, hK8⟩
          case measure => simp [intOf]; omega
    · obtain rfl : k = m := by omega
      rw [show Z.take k = Z by rw [← EM.out, List.take_length]] at hO LEN
      clear hlt hZ
      have h1 : ¬ (k : Int) < (k : Int) := by omega
      have hA := Lib.hid ((Below.refl v.heap.size v).alloc (Nat.le_refl _) (.cells #[.int .u8 126] 5))
      have hO3 := Lib.hid (hO.out.bel hA.out)
      have hz3 := Lib.hid (show B ≤ (v.alloc (.cells #[.int .u8 126] 5)).heap.size from by have := HBv.out; simp; omega)
      have SR := Lib.hid (src_new 22 5 5 Try.underlying22 v [.int .u8 126] (fun u hu => by simp at hu; subst hu; rfl))
      clear hO
      go_wp2_with (first | (at_builtin; refine wpList_append_og _ rfl (.tmp 48) (.tmp 49) 22 22 rfl 5 (.int .u8 0) 1 Try.underlying22 (by kernel_rfl) rfl B u5 _ rfl hO3.out hz3.out _ 1 _ rfl SR.out (by have := LEN.out; unfold maxLen; omega) (by have := LEN.out; omega) ?_; intro x2 w5 hO5 hK5 hN5))
      have hK8 := Lib.hid (hK.out.trans ((hA.out.mono HBv.out).trans (hK5.below hO3.out hz3.out)))
      have hO8 := Lib.hid (show Og 5 B x2 (nvals .u8 PK) w5 by rw [PD.out.out, show 126 :: (esL Z ++ [126]) = (126 :: esL Z) ++ [126] from rfl, nvals_app]; exact hO5)
      clear hO5 hK5 hN5 hA hO3 hz3 SR hK
      try go_wp2
      go_ret
      exact ⟨x2, rfl, hO8.out, hK8.out⟩
end Go.Proofs.Ytpcbnoefgknihaa
