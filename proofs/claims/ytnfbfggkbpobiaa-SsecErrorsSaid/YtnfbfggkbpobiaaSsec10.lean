/- The law SsecErrors; walked. -/
import Derived.Test.YtnfbfggkbpobiaaSsec9
import Derived.Deep.Cut
namespace Go.Proofs.Ytnfbfggkbpobiaa
open Go.ChangeShapes Go.WideShapes Go.ChangeAt Go.RowKit
set_option linter.unusedVariables false
set_option linter.unusedSimpArgs false

theorem wsF_max (m z : Int) : wsF m z = max m (if z < 0 then -z else z) := by
  unfold wsF
  split <;> split <;> split <;> omega
theorem ss10_box (w : World) (a1 a2 a3 : Option Addr) (e1 e2 e3 : Nat) (X Y : List Int) (Z : List (List Int)) (r : Int) : ∃ V, V = (w.alloc (.cells #[.slice a1 X.length e1, .slice a2 Y.length e2, .slice a3 Z.length e3, .int .i64 r] 48)) ∧ Below w.heap.size w V ∧ V.heap.size = w.heap.size + 1 ∧ ∀ u, Below (w.heap.size + 1) V u → u.cell? ⟨w.heap.size, 0, none⟩ = some (.slice a1 X.length e1) ∧ u.cell? ⟨w.heap.size, 1, none⟩ = some (.slice a2 Y.length e2) ∧ u.cell? ⟨w.heap.size, 2, none⟩ = some (.slice a3 Z.length e3) ∧ u.cell? ⟨w.heap.size, 3, none⟩ = some (.int .i64 r) :=
  ⟨_, rfl, (by repeat (first | exact Below.refl _ _ | assumption | apply Below.drew | apply below_drewN | (refine Below.alloc ?_ (by first | exact Nat.le_refl _ | omega | (simp <;> omega)) _) | (refine Below.setCell ?_ (by first | exact Nat.le_refl _ | omega | (simp <;> omega)) _))), by simp, fun u hu => ⟨(bc hu (by omega)).trans (by go_simp), (bc hu (by omega)).trans (by go_simp), (bc hu (by omega)).trans (by go_simp), (bc hu (by omega)).trans (by go_simp)⟩⟩
set_option maxRecDepth 100000 in
set_option maxHeartbeats 8000000 in
theorem law_SsecErrors (a1 a2 a3 : Option Addr) (GA : Nat → Option Addr) (GC : Nat → Nat) (e1 e2 e3 : Nat) (X Y : List Int) (Z : List (List Int)) (r x y : Int) (w : World) (hx : RowIs .i64 w a1 X) (hy : RowIs .i64 w a2 Y) (hg : GridIs .i64 w a3 GA GC Z) : Calls Try.prog 7 #[.agg #[.slice a1 X.length e1, .slice a2 Y.length e2, .slice a3 Z.length e3, .int .i64 r], .int .i64 x, .int .i64 y] w fun e w' => e = .returned (.bool true) ∧ Below w.heap.size w w' := by
  obtain ⟨V, eV, hb0, hz, hcs⟩ := ss10_box w a1 a2 a3 e1 e2 e3 X Y Z r
  have LV := Lib.hid (fun u => lives38 u)
  have GR := Lib.hid (fun u (h : Below (w.heap.size + 1) V u) => sgreat38 a1 a2 a3 GA GC e1 e2 e3 X Y Z u (hg.below (hb0.trans (h.mono (by omega)))))
  have RD := Lib.hid (fun hX hY hZ hR u (h : Below (w.heap.size + 1) V u) => rsc38 a1 a2 a3 GA GC e1 e2 e3 X Y Z r u (hx.below (hb0.trans (h.mono (by omega)))) (hy.below (hb0.trans (h.mono (by omega)))) (hg.below (hb0.trans (h.mono (by omega)))) hX hY hZ hR)
  have ER := Lib.hid (fun hX hY hZ hR u (h : Below (w.heap.size + 1) V u) => sscerror a1 a2 a3 GA GC e1 e2 e3 X Y Z r x y u (hx.below (hb0.trans (h.mono (by omega)))) (hy.below (hb0.trans (h.mono (by omega)))) (hg.below (hb0.trans (h.mono (by omega)))) hX hY hZ hR)
  have WO := Lib.hid (fun hX hY hZ hR u (h : Below (w.heap.size + 1) V u) => sscworst a1 a2 a3 GA GC e1 e2 e3 X Y Z r u (hx.below (hb0.trans (h.mono (by omega)))) (hy.below (hb0.trans (h.mono (by omega)))) (hg.below (hb0.trans (h.mono (by omega)))) hX hY hZ hR)
  have RS := Lib.hid (fun hX hY hZ hR u (h : Below (w.heap.size + 1) V u) => sscright a1 a2 a3 GA GC e1 e2 e3 X Y Z r u (hx.below (hb0.trans (h.mono (by omega)))) (hy.below (hb0.trans (h.mono (by omega)))) (hg.below (hb0.trans (h.mono (by omega)))) hX hY hZ hR)
  have AT := Lib.hid (fun hX hY hZ hR hs u (h : Below (w.heap.size + 1) V u) => rat06 a1 a2 a3 GA GC e1 e2 e3 X Y Z x y u (hx.below (hb0.trans (h.mono (by omega)))) (hy.below (hb0.trans (h.mono (by omega)))) (hg.below (hb0.trans (h.mono (by omega)))) hX hY hZ hR hs)
  have GG := Lib.hid (fun u (h : Below (w.heap.size + 1) V u) => fun i (hi : i < Z.length) => (hg.below (hb0.trans (h.mono (by omega)))).at hi)
  have GW := Lib.hid (fun u (h : Below (w.heap.size + 1) V u) => fun i (hi : i < Z.length) => (hg.below (hb0.trans (h.mono (by omega)))).rows i hi)
  clear hx hy hg
  replace hb0 := Lib.hid hb0
  replace hz := Lib.hid hz
  replace hcs := Lib.hid hcs
  replace eV := Lib.hid eV
  go_enter Try.func7, Try.ntmps7
  go_wp2_with fail
  rw [← eV.out]
  obtain ⟨k0, k1, k2, k3⟩ := hcs.out _ (Below.refl _ _)
  go_wp2_with fail
  refine (GR.out _ (Below.refl _ _)).mono ?_
  rintro e w1 ⟨g, rfl, hgb, hb1⟩
  have hb1 := (Below.refl (w.heap.size + 1) V).trans (hb1.mono (Nat.le_of_eq hz.out.symm))
  obtain ⟨k0, k1, k2, k3⟩ := hcs.out _ hb1
  cases g
  case true =>
    clear hgb RD ER WO RS AT GG GW
    go_wp2_with fail
    refine (LV.out _).mono ?_
    rintro e w20 ⟨rfl, hb20⟩
    have hb20 := hb1.trans (hb20.mono (by have := hb1.size; have := hz.out; omega))
    go_wp2
    go_ret
    exact ⟨rfl, hb0.out.trans (hb20.mono (by omega))⟩
  case false =>
  obtain ⟨hX, hY, hZ, hR⟩ := hgb rfl
  have RD1 := RD.out hX hY hZ hR
  have ER1 := ER.out hX hY hZ hR
  have WO1 := WO.out hX hY hZ hR
  have RS1 := RS.out hX hY hZ hR
  have AB := Lib.hid (fun n u h => ssabs n u h)
  cases hs : scB r X Y Z
  · rw [hs] at RD1 ER1 WO1 RS1
    simp only [Bool.false_eq_true, if_false] at ER1 WO1
    replace RD1 := Lib.hid RD1
    replace ER1 := Lib.hid ER1
    replace WO1 := Lib.hid WO1
    replace RS1 := Lib.hid RS1
    clear hgb RD ER WO RS AT GG GW hX hY hZ hR hs AB
    go_wp2_with fail
    refine (RD1.out _ hb1).mono ?_
    rintro e w2 ⟨rfl, hb2⟩
    have hb2 := hb1.trans (hb2.mono (by have := hb1.size; have := hz.out; omega))
    clear hb1
    obtain ⟨k0, k1, k2, k3⟩ := hcs.out _ hb2
    go_wp2_with fail
    refine (ER1.out _ hb2).mono ?_
    rintro e w3 ⟨rfl, hb3⟩
    have hb3 := hb2.trans (hb3.mono (by have := hb2.size; have := hz.out; omega))
    clear hb2
    obtain ⟨k0, k1, k2, k3⟩ := hcs.out _ hb3
    go_wp2_with fail
    refine (WO1.out _ hb3).mono ?_
    rintro e w4 ⟨rfl, hb4⟩
    have hb4 := hb3.trans (hb4.mono (by have := hb3.size; have := hz.out; omega))
    clear hb3
    obtain ⟨k0, k1, k2, k3⟩ := hcs.out _ hb4
    go_wp2_with fail
    refine (RS1.out _ hb4).mono ?_
    rintro e w5 ⟨rfl, hb5⟩
    have hb5 := hb4.trans (hb5.mono (by have := hb4.size; have := hz.out; omega))
    clear hb4
    obtain ⟨k0, k1, k2, k3⟩ := hcs.out _ hb5
    go_wp2_with fail
    refine (LV.out _).mono ?_
    rintro e w20 ⟨rfl, hb20⟩
    have hb20 := hb5.trans (hb20.mono (by have := hb5.size; have := hz.out; omega))
    go_wp2
    go_ret
    exact ⟨rfl, hb0.out.trans (hb20.mono (by omega))⟩
  have AT1 := AT.out hX hY hZ hR (scB_sh hs)
  rw [hs] at RD1 ER1 WO1 RS1
  simp only [if_true] at ER1 WO1
  generalize crF X (cuL Y Z y) x = n at *
  have d1 : (n == n) = true := by simp
  obtain ⟨s1, s2, s3, s4, s5, s6⟩ := shB_at (scB_sh hs)
  have RL := Lib.hid (fun i (hi : i < Z.length) => show (Z.getD i []).length = Y.length from (rgtB_at (s6 i hi)).2.2.1)
  have BD := Lib.hid (fun i k (hi : i < Z.length) (hk : k < (Z.getD i []).length) => show -100000 ≤ (Z.getD i []).getD k 0 ∧ (Z.getD i []).getD k 0 ≤ 100000 from by
    have a := wsZ_all Z hi hk
    have b := (scB_ws hs).2.2
    omega)
  have NL := Lib.hid (show Z.length ≤ 16 ∧ Y.length ≤ 16 from by omega)
  have WF := Lib.hid (show wsZ (Z.take Z.length) = wsZ Z from by rw [List.take_length])
  have WS := Lib.hid (fun j (hj : j < Z.length) => wsZ_snoc hj)
  generalize wsZ Z = top at *
  have d2 : (top == top) = true := by simp
  replace RD1 := Lib.hid RD1
  replace ER1 := Lib.hid ER1
  replace WO1 := Lib.hid WO1
  replace RS1 := Lib.hid RS1
  replace AT1 := Lib.hid AT1
  clear hgb RD ER WO RS AT hX hY hZ hR hs s1 s2 s3 s4 s5 s6
  go_wp2_with fail
  refine (RD1.out _ hb1).mono ?_
  rintro e w2 ⟨rfl, hb2⟩
  have hb2 := hb1.trans (hb2.mono (by have := hb1.size; have := hz.out; omega))
  clear hb1
  obtain ⟨k0, k1, k2, k3⟩ := hcs.out _ hb2
  go_wp2_with fail
  refine (ER1.out _ hb2).mono ?_
  rintro e w3 ⟨rfl, hb3⟩
  have hb3 := hb2.trans (hb3.mono (by have := hb2.size; have := hz.out; omega))
  clear hb2
  obtain ⟨k0, k1, k2, k3⟩ := hcs.out _ hb3
  go_wp2_with fail
  refine (WO1.out _ hb3).mono ?_
  rintro e w4 ⟨rfl, hb4⟩
  have hb4 := hb3.trans (hb4.mono (by have := hb3.size; have := hz.out; omega))
  clear hb3
  obtain ⟨k0, k1, k2, k3⟩ := hcs.out _ hb4
  go_wp2_with fail
  refine (RS1.out _ hb4).mono ?_
  rintro e w5 ⟨rfl, hb5⟩
  have hb5 := hb4.trans (hb5.mono (by have := hb4.size; have := hz.out; omega))
  clear hb4
  obtain ⟨k0, k1, k2, k3⟩ := hcs.out _ hb5
  go_wp2_with fail
  go_loopw [12, 13] (fun s i v => ∃ j : Nat, j ≤ Z.length ∧ s = .int .i64 (wsZ (Z.take j)) ∧ i = .int .i64 (j : Int) ∧ Below (w.heap.size + 1) V v) (fun _ i _ => Z.length - (intOf i).toNat)
  case atStart => exact ⟨0, by omega, rfl, rfl, hb5⟩
  case round =>
    clear hb5 k0 k1 k2 k3
    obtain ⟨j, hj, rfl, rfl, hb⟩ := hrel
    obtain ⟨k0, k1, k2, k3⟩ := hcs.out _ hb
    have b16 : (Z.length : Int) ≤ 16 := by have := NL.out; omega
    have b17 : (Y.length : Int) ≤ 16 := by have := NL.out; omega
    by_cases hlt : j < Z.length
    · have l1 : (j : Int) < (Z.length : Int) := by omega
      have l0 : 0 ≤ (j : Int) := by omega
      have WS1 := Lib.hid (WS.out j hlt)
      generalize wsZ (Z.take j) = s0 at *
      go_wp2_with fail
      go_loopw [12, 14] (fun s i v => ∃ k : Nat, k ≤ Y.length ∧ s = .int .i64 (wsR s0 ((Z.getD j []).take k)) ∧ i = .int .i64 (k : Int) ∧ Below (w.heap.size + 1) V v) (fun _ i _ => Y.length - (intOf i).toNat)
      case atStart => exact ⟨0, by omega, rfl, rfl, hb⟩
      case round =>
        clear hb k0 k1 k2 k3
        obtain ⟨k, hk, rfl, rfl, hb⟩ := hrel
        obtain ⟨k0, k1, k2, k3⟩ := hcs.out _ hb
        obtain ⟨bz, oz, ez, -, c9⟩ := GG.out _ hb j hlt
        subst ez
        have rl := RL.out j hlt
        by_cases hlk : k < Y.length
        · obtain ⟨br, or_, er, -, c8⟩ := (GW.out _ hb j hlt).at (show k < (Z.getD j []).length by omega)
          have SN := Lib.hid (wsR_snoc s0 (R := Z.getD j []) (k := k) (by omega))
          have bd := BD.out j k hlt (by omega)
          rw [rl, er] at c9
          have k1' : (k : Int) < (Y.length : Int) := by omega
          have k0' : 0 ≤ (k : Int) := by omega
          generalize (Z.getD j []).getD k 0 = z at *
          generalize wsR s0 ((Z.getD j []).take k) = s at *
          have A9 := Lib.hid (fun u => AB.out z u (by omega))
          replace er := Lib.hid er
          clear rl bd
          go_wp2_with fail
          refine (A9.out _).mono ?_
          rintro e w9 ⟨rfl, rfl⟩
          go_wp2
          go_roundw
          case rel => exact ⟨k + 1, by omega, by rw [SN.out, wsF_max], by go_num, hb⟩
          case measure => simp [intOf]; omega
        · rw [rl] at c9
          have hge : (Y.length : Int) ≤ (k : Int) := by omega
          have WS2 := Lib.hid (show wsZ (Z.take (j + 1)) = wsR s0 ((Z.getD j []).take k) from by
            rw [WS1.out, show k = (Z.getD j []).length by omega, List.take_length])
          generalize wsR s0 ((Z.getD j []).take k) = s at *
          clear rl
          go_wp2
          go_roundw
          case rel => exact ⟨j + 1, by omega, by rw [WS2.out], by go_num, hb⟩
          case measure => simp [intOf]; omega
    · have hge : (Z.length : Int) ≤ (j : Int) := by omega
      have ej : j = Z.length := by omega
      rw [show wsZ (Z.take j) = top from by rw [ej]; exact WF.out]
      replace ej := Lib.hid ej
      go_wp2_with fail
      refine (AT1.out _ hb).mono ?_
      rintro e w6 ⟨rfl, hb6⟩
      have hb6 := hb.trans (hb6.mono (by have := hb.size; have := hz.out; omega))
      clear hb
      obtain ⟨k0, k1, k2, k3⟩ := hcs.out _ hb6
      go_wp2_with fail
      refine (LV.out _).mono ?_
      rintro e w20 ⟨rfl, hb20⟩
      have hb20 := hb6.trans (hb20.mono (by have := hb6.size; have := hz.out; omega))
      go_wp2
      go_ret
      exact ⟨rfl, hb0.out.trans (hb20.mono (by omega))⟩
end Go.Proofs.Ytnfbfggkbpobiaa
