/- The law TrendLines; walked. -/
import Derived.Test.YticecjjlafmclaaTrend7
import Derived.Deep.Cut
namespace Go.Proofs.Yticecjjlafmclaa
open Go.ChangeShapes Go.WideShapes Go.ChangeAt Go.RowKit
set_option linter.unusedVariables false
set_option linter.unusedSimpArgs false

theorem Two.row {B b : Nat} {sz : Int} {M L : List Int} {xt : Value} {ao : Option Addr} {n cap : Nat} {w : World} (h : Two B b sz M L xt (.slice ao n cap) w) : RowIs .i64 w ao L := by
  obtain ⟨ao', cap', e, hr, -⟩ := h.o.row
  injection e with e
  subst e
  exact hr
theorem Two.few {B b : Nat} {sz : Int} {M L : List Int} {xt x : Value} {w : World} (h : Two B b sz M L xt x w) : M.length ≤ 64 := by
  have := h.t.t.len
  have := h.t.t.s2
  omega
set_option maxRecDepth 100000 in
set_option maxHeartbeats 8000000 in
theorem law_TrendLines (sz : Int) (a : Option Addr) (cap : Nat) (H : List Int) (x : Int) (w : World) (hr : RowIs .i64 w a H) (hL : H.length ≤ maxLen) : Calls Try.prog 5 #[.int .i64 sz, .slice a H.length cap, .int .i64 x] w fun e w' => e = .returned (.bool true) ∧ Below w.heap.size w w' := by
  have hL' : (H.length : Int) ≤ 9223372036854775807 := by unfold maxLen at hL; omega
  have LV := Lib.hid (fun u => lives44 u)
  rcases (show (sz < 2 ∨ 64 < sz) ∨ (2 ≤ sz ∧ sz ≤ 64) by omega) with g | ⟨g, g2⟩
  · have NW := Lib.hid (fun u => trnew_no sz u g)
    clear g hr hL hL'
    go_enter Try.func5, Try.ntmps5
    go_wp2_with fail
    refine (NW.out _).mono ?_
    rintro e w1 ⟨rfl, rfl⟩
    go_wp2_with fail
    refine (LV.out _).mono ?_
    rintro e w20 ⟨rfl, hb20⟩
    have hb21 := Lib.hid ((Below.refl w.heap.size w).trans (hb20.mono ((Below.refl w.heap.size w)).size))
    clear hb20
    go_wp2
    go_ret
    exact ⟨rfl, hb21.out⟩
  have NW := Lib.hid (fun u => trnew_ok sz u ⟨g, g2⟩)
  by_cases h100 : 100 < H.length
  · have d100 : (100 : Int) < (H.length : Int) := by omega
    clear hr hL hL' h100
    go_enter Try.func5, Try.ntmps5
    go_wp2_with fail
    refine (NW.out _).mono ?_
    rintro e w1 ⟨b, hbb, rfl, m1, hb1⟩
    go_wp2_with fail
    refine (LV.out _).mono ?_
    rintro e w20 ⟨rfl, hb20⟩
    have hb21 := Lib.hid (hb1.trans (hb20.mono (hb1).size))
    clear hb20
    go_wp2
    go_ret
    exact ⟨rfl, hb21.out⟩
  have d100 : (H.length : Int) ≤ 100 := by omega
  obtain ⟨B, eB⟩ : ∃ B, B = w.heap.size := ⟨_, rfl⟩
  have RW := Lib.hid (fun u (h : Below w.heap.size w u) => hr.below h)
  have PT := Lib.hid (fun (b : Nat) (L : List Int) (xt : Value) (h : Int) u (m : TrX B b sz L xt u) => trputx_all h u m)
  have CL := Lib.hid (fun (h : Int) u => c19 h u)
  have C9 := fun u => c09_any x (-1000) 1000 (by omega) u
  obtain ⟨cx, ecx⟩ : ∃ cx, cx = min (max x (-1000)) 1000 := ⟨_, rfl⟩
  rw [show c09 x (-1000) 1000 = cx from by rw [ecx]; unfold c09; omega] at C9
  have hcx : -1000 ≤ cx ∧ cx ≤ 1000 := by omega
  have AT := fun (b : Nat) (N : List Int) u (m : Tr B b sz N u) (z : 2 ≤ N.length) => trat x u m z
  rw [← ecx] at AT
  replace AT := Lib.hid AT
  replace C9 := Lib.hid C9
  replace ecx := Lib.hid ecx
  have SL := Lib.hid (fun (b : Nat) (N : List Int) u (m : Tr B b sz N u) (z : 2 ≤ N.length) => trslope u m z)
  have MI := Lib.hid (fun (b : Nat) (N : List Int) u (m : Tr B b sz N u) (z : 2 ≤ N.length) => trmiddle u m z)
  have LE := Lib.hid (fun (b : Nat) (N : List Int) u (m : Tr B b sz N u) => trlen u m)
  have LL := Lib.hid (fun (b : Nat) (N : List Int) (xt : Value) ao cp u (m : Two B b sz N N xt (.slice ao N.length cp) u) (z : 2 ≤ N.length) => lwline ao cp N u m.row m.t.t.bd z m.few)
  have LA := Lib.hid (fun (b : Nat) (N : List Int) (xt : Value) ao cp u (m : Two B b sz N N xt (.slice ao N.length cp) u) (z : 2 ≤ N.length) => lwat ao cp N cx u m.row m.t.t.bd z m.few hcx)
  have RS := Lib.hid (fun (b : Nat) (N : List Int) u (m : Tr B b sz N u) => trreset u m)
  clear hr hL hL' h100 hcx
  go_enter Try.func5, Try.ntmps5
  go_wp2_with fail
  refine (NW.out _).mono ?_
  rintro e w1 ⟨b, hbb, rfl, m1, hb1⟩
  rw [← eB] at m1 hbb
  have S0 : Hid (∃ xt, Two B b sz [] [] xt (.slice none 0 0) w1) := Lib.hid (by
    obtain ⟨xt, q1, q2, q3⟩ := m1.ex
    exact ⟨xt, ⟨q1, q2, q3, m1⟩, Ow.nil _ _, (fun e => by cases e), (fun g e => by cases e)⟩)
  clear m1 hbb
  go_wp2_with fail
  go_loopw [9, 10] (fun l i v => ∃ (k : Nat) (x : Value) (L : List Int), k ≤ H.length ∧ l = x ∧ i = .int .i64 (k : Int) ∧ Below w.heap.size w v ∧ Hid (∃ xt, Two B b sz L L xt x v)) (fun _ i _ => H.length - (intOf i).toNat)
  case atStart => exact ⟨0, _, [], by omega, rfl, rfl, hb1, S0⟩
  case round =>
    clear hb1 S0
    obtain ⟨k, xl, L, hk, ex, rfl, hb, hS⟩ := hrel
    replace ex := ex.symm
    subst ex
    obtain ⟨xt, hS⟩ := hS.out
    by_cases hlt : k < H.length
    · obtain ⟨br, or_, rfl, -, c1⟩ := (RW.out _ hb).at hlt
      have h1 : (k : Int) < (H.length : Int) := by omega
      have h0 : 0 ≤ (k : Int) := by omega
      have hs1 := Lib.hid hS.t.t.len
      have L64 := Lib.hid hS.few
      generalize wr = v0 at *
      replace hS := Lib.hid hS
      obtain ⟨y, ey⟩ : ∃ y, y = H.getD k 0 := ⟨_, rfl⟩
      rw [← ey] at c1
      replace ey := Lib.hid ey
      go_wp2_with fail
      refine (PT.out b L xt y _ hS.out.t).mono ?_
      rintro e w2 ⟨rfl, xt', t2, pk, hxx⟩
      have S2 := Lib.hid (hS.out.put t2 pk hxx)
      have hb2 : Below w.heap.size w w2 := hb.trans (by rw [← eB]; exact S2.out.2)
      have c2 : w2.cell? ⟨br, or_ + k, none⟩ = some (.int .i64 y) := by
        obtain ⟨b9, o9, e9, -, c9⟩ := (RW.out _ hb2).at hlt
        injection e9 with e9
        injection e9 with e9 e10
        subst e9 e10
        rw [ey.out]
        exact c9
      clear hb c1 hS t2 pk hxx
      go_wp2_with fail
      refine (CL.out y _).mono ?_
      rintro e w3 ⟨rfl, rfl⟩
      have hA := Lib.hid ((Below.refl w2.heap.size w2).alloc (Nat.le_refl _) (.cells #[.int .i64 (trH y)] 2))
      have hO3 := Lib.hid (S2.out.1.o.bel hA.out)
      have hz2 := Lib.hid (show B ≤ (w2.alloc (.cells #[.int .i64 (trH y)] 2)).heap.size from by have := S2.out.1.t.t.hB; simp; omega)
      replace hb2 := Lib.hid hb2
      clear c2
      go_upto_region 10 with (first | (at_builtin; refine wpList_append_ow _ rfl (.tmp 44) (.tmp 50) rfl B xl L (trH y) rfl hO3.out hz2.out _ rfl (by go_simp) (by have := L64.out; omega) ?_; intro x2 w5 hO5 hk5 hx5))
      have S5 := S2.out.1.app hA.out hO5 hk5 hx5
      have hb5 : Below w.heap.size w w5 := hb2.out.trans (by rw [← eB]; exact S5.2)
      replace S5 := S5.1
      clear hA hO3 hz2 hk5 hx5 S2 hb2
      have hl5 : (L ++ [trH y]).length = L.length + 1 := by simp
      obtain ⟨g5, off5, cap5, rfl, hcap5⟩ : ∃ g5 off5 cap5, x2 = .slice (some ⟨g5, off5, none⟩) (L.length + 1) cap5 ∧ L.length + 1 ≤ cap5 := by
        rcases hO5 with ⟨_, e⟩ | ⟨g5, off5, cap5, cur, e, _, _, hle, _⟩
        · rw [e] at hl5; simp at hl5
        · rw [hl5] at e hle; exact ⟨_, _, _, e, hle⟩
      clear hO5
      have l64 := L64.out
      have hs2 := hs1.out
      have hcapI : (L.length : Int) + 1 ≤ (cap5 : Int) := by omega
      have etn : trN sz L y = if (L.length : Int) < sz then L ++ [trH y] else (L ++ [trH y]).drop 1 := rfl
      by_cases hc : (L.length : Int) < sz
      · rw [if_pos hc] at etn
        rw [etn] at S5
        have hd : ¬ sz < (L.length : Int) + 1 := by omega
        generalize L ++ [trH y] = N at *
        have hl6 : L.length + 1 = N.length := hl5.symm
        have hl7 : (L.length : Int) + 1 = (N.length : Int) := by omega
        rw [hl6] at S5 ⊢
        rw [hl7] at hd hcapI
        have hd' : ¬ sz < (N.length : Int) := by omega
        obtain ⟨g6, eg6⟩ : ∃ g6, g6 = g5 := ⟨_, rfl⟩
        obtain ⟨off6, eo6⟩ : ∃ off6, off6 = off5 := ⟨_, rfl⟩
        obtain ⟨cap6, ec6⟩ : ∃ cap6, cap6 = cap5 := ⟨_, rfl⟩
        rw [← eg6, ← eo6, ← ec6] at S5 ⊢
        clear etn hl5 eg6 eo6 ec6
        go_upto_region 12 with (fail)
        clear hl6 hl7 hd hd' hcapI l64 hs2
        replace S5 := Lib.hid S5
        have E1 := Lib.hid (fun u m => LE.out b N u m)
        go_wp2_with fail
        refine (E1.out _ S5.out.t.t).mono ?_
        rintro e w6 ⟨rfl, rfl⟩
        by_cases h2N : N.length < 2
        · skip
          have h2I : (N.length : Int) < 2 := by omega
          go_wp2
          go_roundw
          case rel => exact ⟨k + 1, _, N, by omega, rfl, by go_num, hb5, Lib.hid ⟨_, S5.out⟩⟩
          case measure => simp [intOf]; omega
        · skip
          have h2M : 2 ≤ N.length := by omega
          have h2I : ¬ (N.length : Int) < 2 := by omega
          have E2 := LL.out b N xt' (some ⟨g6, off6, none⟩) cap6 _ S5.out h2M
          have E3 := SL.out b N _ S5.out.t.t h2M
          have E4 := MI.out b N _ S5.out.t.t h2M
          have E5 := AT.out b N _ S5.out.t.t h2M
          have E6 := fun u m => LA.out b N xt' (some ⟨g6, off6, none⟩) cap6 u m h2M
          generalize trS N = s at *
          generalize trM N = m at *
          generalize lnV m s (N.length : Int) cx = R at *
          replace E2 := Lib.hid E2
          replace E3 := Lib.hid E3
          replace E4 := Lib.hid E4
          replace E5 := Lib.hid E5
          replace E6 := Lib.hid E6
          have ds : (s != s) = false := by simp
          have dm : (m != m) = false := by simp
          have dr : (R != R) = false := by simp
          go_wp2_with fail
          refine E2.out.mono ?_
          rintro e w7 ⟨rfl, rfl⟩
          go_wp2_with fail
          refine E3.out.mono ?_
          rintro e w7 ⟨rfl, rfl⟩
          go_wp2_with fail
          refine E4.out.mono ?_
          rintro e w7 ⟨rfl, rfl⟩
          go_wp2_with fail
          refine E5.out.mono ?_
          rintro e w7 ⟨rfl, hb7⟩
          have S7 := Lib.hid (S5.out.bel hb7)
          have h7 := Lib.hid (hb5.trans (hb7.mono hb5.size))
          clear hb5 hb7 S5 E2 E3 E4 E5
          go_wp2_with fail
          refine (C9.out _).mono ?_
          rintro e w8 ⟨rfl, rfl⟩
          go_wp2_with fail
          refine (E6.out _ S7.out).mono ?_
          rintro e w8 ⟨rfl, rfl⟩
          go_wp2
          go_roundw
          case rel => exact ⟨k + 1, _, N, by omega, rfl, by go_num, h7.out, Lib.hid ⟨_, S7.out⟩⟩
          case measure => simp [intOf]; omega
      · rw [if_neg hc] at etn
        rw [etn] at S5
        have hd : sz < (L.length : Int) + 1 := by omega
        rw [show L.length + 1 = (L ++ [trH y]).length from hl5.symm] at S5
        have S6 := S5.cut (by omega)
        rw [hl5, show L.length + 1 - 1 = L.length from by omega] at S6
        have hl8 : ((L ++ [trH y]).drop 1).length = L.length := by rw [List.length_drop, hl5]; omega
        have hz1 : cap5 ≠ 1 := by omega
        have hz3 : cap5 - 1 ≠ 0 := by omega
        clear S5 etn
        go_upto_region 12 with (fail)
        generalize (L ++ [trH y]).drop 1 = N at *
        have hl6 : L.length = N.length := hl8.symm
        have S5 := S6
        clear S6
        rw [hl6] at S5
        try rw [show L.length + 1 - 1 = L.length from by omega]
        rw [hl6]
        obtain ⟨g6, eg6⟩ : ∃ g6, g6 = g5 := ⟨_, rfl⟩
        obtain ⟨off6, eo6⟩ : ∃ off6, off6 = off5 + 1 := ⟨_, rfl⟩
        obtain ⟨cap6, ec6⟩ : ∃ cap6, cap6 = cap5 - 1 := ⟨_, rfl⟩
        rw [← eg6, ← eo6, ← ec6] at S5 ⊢
        clear hl5 eg6 eo6 ec6
        clear hl6 hl8 hd hz1 hz3 hcapI l64 hs2
        replace S5 := Lib.hid S5
        have E1 := Lib.hid (fun u m => LE.out b N u m)
        go_wp2_with fail
        refine (E1.out _ S5.out.t.t).mono ?_
        rintro e w6 ⟨rfl, rfl⟩
        by_cases h2N : N.length < 2
        · skip
          have h2I : (N.length : Int) < 2 := by omega
          go_wp2
          go_roundw
          case rel => exact ⟨k + 1, _, N, by omega, rfl, by go_num, hb5, Lib.hid ⟨_, S5.out⟩⟩
          case measure => simp [intOf]; omega
        · skip
          have h2M : 2 ≤ N.length := by omega
          have h2I : ¬ (N.length : Int) < 2 := by omega
          have E2 := LL.out b N xt' (some ⟨g6, off6, none⟩) cap6 _ S5.out h2M
          have E3 := SL.out b N _ S5.out.t.t h2M
          have E4 := MI.out b N _ S5.out.t.t h2M
          have E5 := AT.out b N _ S5.out.t.t h2M
          have E6 := fun u m => LA.out b N xt' (some ⟨g6, off6, none⟩) cap6 u m h2M
          generalize trS N = s at *
          generalize trM N = m at *
          generalize lnV m s (N.length : Int) cx = R at *
          replace E2 := Lib.hid E2
          replace E3 := Lib.hid E3
          replace E4 := Lib.hid E4
          replace E5 := Lib.hid E5
          replace E6 := Lib.hid E6
          have ds : (s != s) = false := by simp
          have dm : (m != m) = false := by simp
          have dr : (R != R) = false := by simp
          go_wp2_with fail
          refine E2.out.mono ?_
          rintro e w7 ⟨rfl, rfl⟩
          go_wp2_with fail
          refine E3.out.mono ?_
          rintro e w7 ⟨rfl, rfl⟩
          go_wp2_with fail
          refine E4.out.mono ?_
          rintro e w7 ⟨rfl, rfl⟩
          go_wp2_with fail
          refine E5.out.mono ?_
          rintro e w7 ⟨rfl, hb7⟩
          have S7 := Lib.hid (S5.out.bel hb7)
          have h7 := Lib.hid (hb5.trans (hb7.mono hb5.size))
          clear hb5 hb7 S5 E2 E3 E4 E5
          go_wp2_with fail
          refine (C9.out _).mono ?_
          rintro e w8 ⟨rfl, rfl⟩
          go_wp2_with fail
          refine (E6.out _ S7.out).mono ?_
          rintro e w8 ⟨rfl, rfl⟩
          go_wp2
          go_roundw
          case rel => exact ⟨k + 1, _, N, by omega, rfl, by go_num, h7.out, Lib.hid ⟨_, S7.out⟩⟩
          case measure => simp [intOf]; omega
    · have hge : (H.length : Int) ≤ (k : Int) := by omega
      have hge' : ¬ (k : Int) < (H.length : Int) := by omega
      replace hS := Lib.hid hS
      go_wp2_with fail
      refine (RS.out b L _ hS.out.t.t).mono ?_
      rintro e w6 ⟨rfl, m6, hb6⟩
      have h6 := hb.trans (by rw [← eB]; exact hb6)
      clear hb hb6 hS
      go_wp2_with fail
      refine (LE.out b [] _ m6).mono ?_
      rintro e w7 ⟨rfl, rfl⟩
      go_wp2_with fail
      refine (LV.out _).mono ?_
      rintro e w20 ⟨rfl, hb20⟩
      have hb21 := Lib.hid (h6.trans (hb20.mono (h6).size))
      clear hb20
      go_wp2
      go_ret
      exact ⟨rfl, hb21.out⟩
end Go.Proofs.Yticecjjlafmclaa
