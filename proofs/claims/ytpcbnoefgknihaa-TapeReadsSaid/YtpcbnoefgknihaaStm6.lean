/- Package stream: packets wrapped, in the code and in the document; walked. -/
import Derived.Test.YtpcbnoefgknihaaStm5
namespace Go.Proofs.Ytpcbnoefgknihaa
open Go.ChangeShapes Go.WideShapes Go.ChangeAt Go.RowKit
set_option linter.unusedVariables false
set_option linter.unusedSimpArgs false
/-- A row that is read while another one grows. -/
def SepK (k : IntKind) (x : Value) (ap : Option Addr) (P : List Int) (v : World) : Prop := RowIs k v ap P ∧ (∀ b, ap = some b → ogB x ≠ some b.block) ∧ ∀ b, ap = some b → b.block < v.heap.size
theorem SepK.next {k : IntKind} {x x' : Value} {ap : Option Addr} {P : List Int} {v v' : World} (h : SepK k x ap P v) (g : OgK x v v') (n : OgN x x' v) : SepK k x' ap P v' := by
  refine ⟨h.1.ogk g h.2.1, fun b hb => ?_, fun b hb => Nat.lt_of_lt_of_le (h.2.2 b hb) g.size⟩
  rcases n with n | ⟨c, n, hc⟩
  · rw [n]; exact h.2.1 b hb
  · rw [n]
    intro e
    injection e with e
    have := h.2.2 b hb
    omega
theorem SepK.bel {k : IntKind} {x : Value} {ap : Option Addr} {P : List Int} {v v' : World} (h : SepK k x ap P v) (g : Below v.heap.size v v') : SepK k x ap P v' := ⟨h.1.below g, h.2.1, fun b hb => Nat.lt_of_lt_of_le (h.2.2 b hb) g.size⟩
theorem esL_snoc (l : List Int) (k : Nat) (h : k < l.length) : esL (l.take (k + 1)) = esL (l.take k) ++ esB (l.getD k 0) := by
  rw [take_snoc h, esL_app]
  simp [esL]
theorem smL_len (L : List Int) : (smL L).length = L.length + 2 := by simp [smL]
set_option maxRecDepth 100000 in
set_option maxHeartbeats 8000000 in
theorem spack (a : Option Addr) (cap : Nat) (L : List Int) (w : World) (hr : RowIs .u8 w a L) (h1 : 1 ≤ L.length) (hL : L.length ≤ 64) (hB : BYL L) : Calls Try.prog 33 #[.slice a L.length cap] w fun e w' => ∃ x', e = .returned (.tuple #[x', .int .i64 0]) ∧ Og 5 w.heap.size x' (nvals .u8 (pkL L)) w' ∧ Below w.heap.size w w' := by
  have TS := Lib.hid (tsum a cap L w hr (by unfold maxLen; omega) hB.by8)
  obtain ⟨B, eB⟩ : ∃ B, w.heap.size = B := ⟨_, rfl⟩
  have EB := Lib.hid eB
  rw [eB]
  have HL := Lib.hid hL
  have HY := Lib.hid hB
  have HC := Lib.hid (fun u (k : Below w.heap.size w u) => tclone a cap L u (hr.below k) (by omega))
  have ZD := Lib.hid (show smL L = L ++ [((crI L / 256 : Nat) : Int), ((crI L % 256 : Nat) : Int)] from rfl)
  have ZY := Lib.hid (smL_byl hB)
  have ZL := Lib.hid (smL_len L)
  have PD := Lib.hid (show pkL L = 126 :: (esL (smL L) ++ [126]) from rfl)
  have SLT := crI_lt L
  obtain ⟨n, en⟩ : ∃ n, L.length = n := ⟨_, rfl⟩
  have n1 : ¬ (n : Int) < 1 := by omega
  have n2 : ¬ (64 : Int) < (n : Int) := by omega
  have EN := Lib.hid en
  rw [en] at TS HC ⊢
  generalize crI L = S at *
  obtain ⟨y0, ey0⟩ : ∃ y : Nat, y = S / 256 := ⟨_, rfl⟩
  obtain ⟨y1, ey1⟩ : ∃ y : Nat, y = S % 256 := ⟨_, rfl⟩
  have j1 : (S : Int) / 256 = (y0 : Int) := by omega
  have j2 : IntKind.u8.wrap (y0 : Int) = (y0 : Int) := by rw [IntKind.wrap_u8]; omega
  have j3 : IntKind.u8.wrap (S : Int) = (y1 : Int) := by rw [IntKind.wrap_u8]; omega
  rw [← ey0, ← ey1] at ZD
  replace ZD := Lib.hid ZD
  have x94 : bits .xor .u8 126 32 = 94 := by decide
  have x93 : bits .xor .u8 125 32 = 93 := by decide
  obtain ⟨PK, ePK⟩ : ∃ P, pkL L = P := ⟨_, rfl⟩
  rw [ePK] at PD ⊢
  generalize smL L = Z at *
  replace PD := Lib.hid PD
  replace ZL := Lib.hid ZL
  replace ZY := Lib.hid ZY
  clear hr hB hL ey0 ey1 SLT ePK en eB h1
  go_enter Try.func33, Try.ntmps33
  go_wp2_with fail
  refine TS.out.mono ?_
  rintro e w1 ⟨rfl, rfl⟩
  clear TS
  have hF := Lib.hid (Og.new 5 w [.int .u8 126])
  have hAF := Lib.hid ((Below.refl w.heap.size w).alloc (Nat.le_refl _) (.cells #[.int .u8 126] 5))
  have CL := Lib.hid (HC.out _ hAF.out)
  clear HC
  go_wp2_with fail
  refine CL.out.mono ?_
  rintro e w2 ⟨x1, rfl, hO1, hb2, -⟩
  clear CL
  have sz1 : (w.alloc (.cells #[.int .u8 126] 5)).heap.size = w.heap.size + 1 := by simp
  rw [sz1] at hO1 hb2
  have HBv := Lib.hid (show B ≤ w2.heap.size from by have := EB.out; have := hb2.size; omega)
  have hO := Lib.hid (show Og 5 (w.heap.size + 1) x1 (nvals .u8 L) w2 from hO1)
  have hF2 := Lib.hid (show Og 5 w.heap.size (.slice (some ⟨w.heap.size, 0, none⟩) 1 1) [.int .u8 126] w2 from hF.out.bel (by rw [sz1]; exact hb2))
  have hK2 := Lib.hid (show Below B w w2 from by rw [← EB.out]; exact hAF.out.trans (hb2.mono (by omega)))
  have LEN := Lib.hid (show (nvals .u8 L).length + 2 ≤ 1000000 by rw [nvals_len]; have := HL.out; omega)
  have hA := Lib.hid ((Below.refl w2.heap.size w2).alloc (Nat.le_refl _) (.cells #[.int .u8 (y0 : Int), .int .u8 (y1 : Int)] 5))
  have hO3 := Lib.hid (hO.out.bel hA.out)
  have hz3 := Lib.hid (show w.heap.size + 1 ≤ (w2.alloc (.cells #[.int .u8 (y0 : Int), .int .u8 (y1 : Int)] 5)).heap.size from by have := hb2.size; simp; omega)
  have SR := Lib.hid (src_new 22 5 5 Try.underlying22 w2 [.int .u8 (y0 : Int), .int .u8 (y1 : Int)] (fun u hu => by simp at hu; rcases hu with rfl | rfl <;> rfl))
  clear hO1 hb2 hF hAF sz1 hO
  go_wp2_with (first | (at_builtin; refine wpList_append_og _ rfl (.tmp 20) (.tmp 26) 22 22 rfl 5 (.int .u8 0) 1 Try.underlying22 (by kernel_rfl) rfl (w.heap.size + 1) x1 _ rfl hO3.out hz3.out _ 2 _ rfl SR.out (by have := LEN.out; unfold maxLen; omega) (by have := LEN.out; omega) ?_; intro x2 w5 hO5 hK5 hN5; have hO6 : Og 5 (w.heap.size + 1) x2 (nvals .u8 Z) w5 := (by rw [ZD.out.out, nvals_app]; exact hO5); obtain ⟨az, cz, rfl, hcz, hrz, hnz, hsz⟩ := hO6.rowIs))
  have sep := Lib.hid (show ∀ g, ogB (.slice (some ⟨w.heap.size, 0, none⟩) 1 1) = some g → ogB x1 ≠ some g from fun g hg e => by have h1 := (hO3.out.lt e).1; injection hg with hg; have hg : w.heap.size = g := hg; omega)
  have hF3 := Lib.hid (show Og 5 B (.slice (some ⟨w.heap.size, 0, none⟩) 1 1) (nvals .u8 (126 :: esL (Z.take 0))) w5 from by rw [← EB.out]; exact (hF2.out.bel hA.out).kept (fun g hg hl => hK5.block g hl (sep.out g hg)))
  have hZ3 := Lib.hid (show SepK .u8 (.slice (some ⟨w.heap.size, 0, none⟩) 1 1) az Z w5 from ⟨hrz, fun b hb e => by have h1 := (hsz b hb).2; injection e with e; have e : w.heap.size = b.block := e; omega, fun b hb => (hO6.lt (g := b.block) (by rw [hb]; rfl)).2⟩)
  have hK3 := Lib.hid (show Below B w w5 from hK2.out.trans ((hA.out.mono HBv.out).trans (hK5.bel (fun g hg => by have := (hO3.out.lt hg).1; have := EB.out; omega) (by have := HBv.out; simp; omega))))
  obtain ⟨m, em⟩ : ∃ m, Z.length = m := ⟨_, rfl⟩
  have EM := Lib.hid em
  have mB : (m : Int) ≤ 66 := by have := ZL.out.out; have := EN.out; omega
  rw [em] at hcz ⊢
  clear hO5 hK5 hN5 hO6 hrz hnz hsz hA hO3 hz3 SR hF2 hK2 sep em HBv LEN hcz
  go_wp2_with fail
  go_loopw [5, 29] (fun y i v => ∃ (k : Nat) (x' : Value), k ≤ m ∧ y = x' ∧ i = .int .i64 (k : Int) ∧ Hid (Og 5 B x' (nvals .u8 (126 :: esL (Z.take k))) v) ∧ Hid (SepK .u8 x' az Z v) ∧ Hid (Below B w v)) (fun _ i _ => m - (intOf i).toNat)
  case atStart => exact ⟨0, _, by omega, rfl, rfl, hF3, hZ3, hK3⟩
  case round =>
    clear hF3 hZ3 hK3
    obtain ⟨k, x', hk, rfl, rfl, hO, hZ, hK⟩ := hrel
    generalize wr = v at *
    have HBv := Lib.hid (show B ≤ v.heap.size from by have := EB.out; have := hK.out.size; omega)
    have LEN := Lib.hid (show (nvals .u8 (126 :: esL (Z.take k))).length + 2 ≤ 1000000 by rw [nvals_len]; have h1 := (esL_len (Z.take k)).2; have h2 : (Z.take k).length ≤ k := (by rw [List.length_take]; omega); simp only [List.length_cons]; omega)
    by_cases hlt : k < m
    · have hkl : k < Z.length := by rw [EM.out]; exact hlt
      have h1 : (k : Int) < (m : Int) := by omega
      have h0 : 0 ≤ (k : Int) := by omega
      obtain ⟨zb, zo, rfl, -, hc⟩ := hZ.out.1.at hkl
      have ES := esL_snoc Z k hkl
      generalize Z.getD k 0 = x at *
      by_cases hx : x = 126
      · subst hx
        have ES2 := Lib.hid (show nvals .u8 (126 :: esL (Z.take (k + 1))) = nvals .u8 (126 :: esL (Z.take k)) ++ [.int .u8 125, .int .u8 94] by rw [ES]; simp [nvals, esB])
        clear ES hkl
        have hA := Lib.hid ((Below.refl v.heap.size v).alloc (Nat.le_refl _) (.cells #[.int .u8 125, .int .u8 94] 5))
        have hO3 := Lib.hid (hO.out.bel hA.out)
        have hz3 := Lib.hid (show B ≤ (v.alloc (.cells #[.int .u8 125, .int .u8 94] 5)).heap.size from by have := HBv.out; simp; omega)
        have SR := Lib.hid (src_new 22 5 5 Try.underlying22 v [.int .u8 125, .int .u8 94] (fun u hu => by simp at hu; rcases hu with rfl | rfl <;> rfl))
        clear hO
        go_upto_region 11 with (first | (at_builtin; refine wpList_append_og _ rfl (.tmp 39) (.tmp 42) 22 22 rfl 5 (.int .u8 0) 1 Try.underlying22 (by kernel_rfl) rfl B u5 _ rfl hO3.out hz3.out _ 2 _ rfl SR.out (by have := LEN.out; unfold maxLen; omega) (by have := LEN.out; omega) ?_; intro x2 w5 hO5 hK5 hN5))
        have hZ8 := Lib.hid ((hZ.out.bel hA.out).next hK5 hN5)
        have hK8 := Lib.hid (hK.out.trans ((hA.out.mono HBv.out).trans (hK5.below hO3.out hz3.out)))
        have hO8 := Lib.hid (show Og 5 B x2 (nvals .u8 (126 :: esL (Z.take (k + 1)))) w5 by rw [ES2.out]; exact hO5)
        clear hO5 hK5 hN5 hA hO3 hz3 SR hK hZ
        go_wp2
        go_roundw
        case rel => exact ⟨k + 1, x2, by omega, rfl, by first | rfl | go_num, hO8, hZ8, hK8⟩
        case measure => simp [intOf]; omega
      · by_cases hx2 : x = 125
        · subst hx2
          have ES2 := Lib.hid (show nvals .u8 (126 :: esL (Z.take (k + 1))) = nvals .u8 (126 :: esL (Z.take k)) ++ [.int .u8 125, .int .u8 93] by rw [ES]; simp [nvals, esB])
          clear ES hkl hx
          have hA := Lib.hid ((Below.refl v.heap.size v).alloc (Nat.le_refl _) (.cells #[.int .u8 125, .int .u8 93] 5))
          have hO3 := Lib.hid (hO.out.bel hA.out)
          have hz3 := Lib.hid (show B ≤ (v.alloc (.cells #[.int .u8 125, .int .u8 93] 5)).heap.size from by have := HBv.out; simp; omega)
          have SR := Lib.hid (src_new 22 5 5 Try.underlying22 v [.int .u8 125, .int .u8 93] (fun u hu => by simp at hu; rcases hu with rfl | rfl <;> rfl))
          clear hO
          go_upto_region 11 with (first | (at_builtin; refine wpList_append_og _ rfl (.tmp 39) (.tmp 42) 22 22 rfl 5 (.int .u8 0) 1 Try.underlying22 (by kernel_rfl) rfl B u5 _ rfl hO3.out hz3.out _ 2 _ rfl SR.out (by have := LEN.out; unfold maxLen; omega) (by have := LEN.out; omega) ?_; intro x2 w5 hO5 hK5 hN5))
          have hZ8 := Lib.hid ((hZ.out.bel hA.out).next hK5 hN5)
          have hK8 := Lib.hid (hK.out.trans ((hA.out.mono HBv.out).trans (hK5.below hO3.out hz3.out)))
          have hO8 := Lib.hid (show Og 5 B x2 (nvals .u8 (126 :: esL (Z.take (k + 1)))) w5 by rw [ES2.out]; exact hO5)
          clear hO5 hK5 hN5 hA hO3 hz3 SR hK hZ
          go_wp2
          go_roundw
          case rel => exact ⟨k + 1, x2, by omega, rfl, by first | rfl | go_num, hO8, hZ8, hK8⟩
          case measure => simp [intOf]; omega
        · have ES2 := Lib.hid (show nvals .u8 (126 :: esL (Z.take (k + 1))) = nvals .u8 (126 :: esL (Z.take k)) ++ [.int .u8 x] by rw [ES]; simp [nvals, esB, hx, hx2])
          have p1 : (x == 126) = false := beq_eq_false_iff_ne.2 hx
          have p2 : (x == 125) = false := beq_eq_false_iff_ne.2 hx2
          clear ES hkl
          have hA := Lib.hid ((Below.refl v.heap.size v).alloc (Nat.le_refl _) (.cells #[.int .u8 x] 5))
          have hO3 := Lib.hid (hO.out.bel hA.out)
          have hz3 := Lib.hid (show B ≤ (v.alloc (.cells #[.int .u8 x] 5)).heap.size from by have := HBv.out; simp; omega)
          have SR := Lib.hid (src_new 22 5 5 Try.underlying22 v [.int .u8 x] (fun u hu => by simp at hu; subst hu; rfl))
          clear hO
          go_upto_region 11 with (first | (at_builtin; refine wpList_append_og _ rfl (.tmp 44) (.tmp 46) 22 22 rfl 5 (.int .u8 0) 1 Try.underlying22 (by kernel_rfl) rfl B u5 _ rfl hO3.out hz3.out _ 1 _ rfl SR.out (by have := LEN.out; unfold maxLen; omega) (by have := LEN.out; omega) ?_; intro x2 w5 hO5 hK5 hN5))
          have hZ8 := Lib.hid ((hZ.out.bel hA.out).next hK5 hN5)
          have hK8 := Lib.hid (hK.out.trans ((hA.out.mono HBv.out).trans (hK5.below hO3.out hz3.out)))
          have hO8 := Lib.hid (show Og 5 B x2 (nvals .u8 (126 :: esL (Z.take (k + 1)))) w5 by rw [ES2.out]; exact hO5)
          clear hO5 hK5 hN5 hA hO3 hz3 SR hK hZ
          go_wp2
          go_roundw
          case rel => exact ⟨k + 1, x2, by omega, rfl, by first | rfl | go_num, hO8, hZ8, hK8⟩
          case measure => simp [intOf]; omega
    · obtain rfl : k = m := by omega
      rw [show Z.take k = Z by rw [← EM.out, List.take_length]] at hO LEN
      clear hlt hZ
      have h1 : ¬ (k : Int) < (k : Int) := by omega
      have hA := Lib.hid ((Below.refl v.heap.size v).alloc (Nat.le_refl _) (.cells #[.int .u8 126] 5))
      have hO3 := Lib.hid (hO.out.bel hA.out)
      have hz3 := Lib.hid (show B ≤ (v.alloc (.cells #[.int .u8 126] 5)).heap.size from by have := HBv.out; simp; omega)
      have SR := Lib.hid (src_new 22 5 5 Try.underlying22 v [.int .u8 126] (fun u hu => by simp at hu; subst hu; rfl))
      clear hO
      go_wp2_with (first | (at_builtin; refine wpList_append_og _ rfl (.tmp 49) (.tmp 50) 22 22 rfl 5 (.int .u8 0) 1 Try.underlying22 (by kernel_rfl) rfl B u5 _ rfl hO3.out hz3.out _ 1 _ rfl SR.out (by have := LEN.out; unfold maxLen; omega) (by have := LEN.out; omega) ?_; intro x2 w5 hO5 hK5 hN5))
      have hK8 := Lib.hid (hK.out.trans ((hA.out.mono HBv.out).trans (hK5.below hO3.out hz3.out)))
      have hO8 := Lib.hid (show Og 5 B x2 (nvals .u8 PK) w5 by rw [PD.out.out, show 126 :: (esL Z ++ [126]) = (126 :: esL Z) ++ [126] from rfl, nvals_app]; exact hO5)
      clear hO5 hK5 hN5 hA hO3 hz3 SR hK
      try go_wp2
      go_ret2
      exact ⟨x2, rfl, hO8.out, hK8.out⟩
set_option maxRecDepth 100000 in
set_option maxHeartbeats 8000000 in
theorem spack_no (a : Option Addr) (n cap : Nat) (w : World) (h : n < 1 ∨ 64 < n) (hn : n ≤ maxLen) : Calls Try.prog 33 #[.slice a n cap] w fun e w' => e = .returned (.tuple #[.slice none 0 0, .int .i64 12]) ∧ w = w' := by
  have hn' : (n : Int) ≤ 9223372036854775807 := by unfold maxLen at hn; omega
  rcases h with h | h
  · have j : (n : Int) < 1 := by omega
    clear h
    go_enter Try.func33, Try.ntmps33
    go_wp2
    go_ret2
    exact ⟨rfl, rfl⟩
  · have j : (64 : Int) < (n : Int) := by omega
    have j2 : ¬ (n : Int) < 1 := by omega
    clear h
    go_enter Try.func33, Try.ntmps33
    go_wp2
    go_ret2
    exact ⟨rfl, rfl⟩
end Go.Proofs.Ytpcbnoefgknihaa
