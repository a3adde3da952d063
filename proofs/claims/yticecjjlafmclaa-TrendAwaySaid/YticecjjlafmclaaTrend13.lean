/- The law TrendAway; walked. -/
import Derived.Test.YticecjjlafmclaaTrend8
import Derived.Test.YticecjjlafmclaaTrend12
import Derived.Deep.Cut
namespace Go.Proofs.Yticecjjlafmclaa
open Go.ChangeShapes Go.WideShapes Go.ChangeAt Go.RowKit
set_option linter.unusedVariables false
set_option linter.unusedSimpArgs false
set_option maxRecDepth 100000 in
set_option maxHeartbeats 8000000 in
theorem tabs (n : Int) (w : World) (h : -4611686018427387904 ≤ n) : Calls Try.prog 29 #[.int .i64 n] w fun e w' => e = .returned (.int .i64 (if n < 0 then -n else n)) ∧ w = w' := by
  have hw := fun h1 : n < 0 => IntWalk.i64_in (-n) ⟨by omega, by omega⟩
  rcases (show n < 0 ∨ 0 ≤ n by omega) with h1 | h1
  · have hw := hw h1
    rw [if_pos h1]
    go_enter Try.func29, Try.ntmps29
    go_wp2
    go_ret
    exact ⟨rfl, rfl⟩
  · clear hw
    rw [if_neg (by omega)]
    go_enter Try.func29, Try.ntmps29
    go_wp2
    go_ret
    exact ⟨rfl, rfl⟩
set_option maxRecDepth 100000 in
set_option maxHeartbeats 8000000 in
theorem law_TrendAway (sz : Int) (a : Option Addr) (cap : Nat) (H : List Int) (far : Int) (w : World) (hr : RowIs .i64 w a H) (hL : H.length ≤ maxLen) : Calls Try.prog 6 #[.int .i64 sz, .slice a H.length cap, .int .i64 far] w fun e w' => e = .returned (.bool true) ∧ Below w.heap.size w w' := by
  have hL' : (H.length : Int) ≤ 9223372036854775807 := by unfold maxLen at hL; omega
  have LV := Lib.hid (fun u => lives44 u)
  rcases (show (sz < 2 ∨ 64 < sz) ∨ (2 ≤ sz ∧ sz ≤ 64) by omega) with g | ⟨g, g2⟩
  · have NW := Lib.hid (fun u => trnew_no sz u g)
    clear g hr hL hL'
    go_enter Try.func6, Try.ntmps6
    go_wp2_with fail
    refine (NW.out _).mono ?_
    rintro e w1 ⟨rfl, rfl⟩
    go_wp2_with fail
    refine (LV.out _).mono ?_
    rintro e w20 ⟨rfl, hb20⟩
    have hb21 := Lib.hid ((Below.refl w.heap.size w).trans (hb20.mono ((Below.refl w.heap.size w)).size))
    clear hb20
    go_wp2
    go_ret
    exact ⟨rfl, hb21.out⟩
  have NW := Lib.hid (fun u => trnew_ok sz u ⟨g, g2⟩)
  by_cases h100 : 100 < H.length
  · have d100 : (100 : Int) < (H.length : Int) := by omega
    clear hr hL hL' h100
    go_enter Try.func6, Try.ntmps6
    go_wp2_with fail
    refine (NW.out _).mono ?_
    rintro e w1 ⟨b, hbb, rfl, m1, hb1⟩
    go_wp2_with fail
    refine (LV.out _).mono ?_
    rintro e w20 ⟨rfl, hb20⟩
    have hb21 := Lib.hid (hb1.trans (hb20.mono (hb1).size))
    clear hb20
    go_wp2
    go_ret
    exact ⟨rfl, hb21.out⟩
  have d100 : (H.length : Int) ≤ 100 := by omega
  obtain ⟨B, eB⟩ : ∃ B, B = w.heap.size := ⟨_, rfl⟩
  have RW := Lib.hid (fun u (h : Below w.heap.size w u) => hr.below h)
  have PT := Lib.hid (fun (b : Nat) (L : List Int) (xt : Value) (h : Int) u (m : TrX B b sz L xt u) => trputx_all h u m)
  have CL := Lib.hid (fun (h : Int) u => c19 h u)
  have OU := Lib.hid (fun (b : Nat) (N : List Int) u (m : Tr B b sz N u) (z : 2 ≤ N.length) => trout far u m z)
  have WO := Lib.hid (fun (b : Nat) (N : List Int) u (m : Tr B b sz N u) (z : 2 ≤ N.length) => trworst u m z)
  have LA := Lib.hid (fun (b : Nat) (N : List Int) (xt : Value) ao cp (x : Int) u (m : Two B b sz N N xt (.slice ao N.length cp) u) (z : 2 ≤ N.length) (hx : -1000 ≤ x ∧ x ≤ 1000) => lwat ao cp N x u m.row m.t.t.bd z m.few hx)
  clear hr hL hL' h100
  go_enter Try.func6, Try.ntmps6
  go_wp2_with fail
  refine (NW.out _).mono ?_
  rintro e w1 ⟨b, hbb, rfl, m1, hb1⟩
  rw [← eB] at m1 hbb
  have S0 : Hid (([] : List Int).length = 0 ∧ ∃ xt, Two B b sz (([] : List Int).drop (([] : List Int).length - sz.toNat)) [] xt (.slice none 0 0) w1) := Lib.hid (by
    obtain ⟨xt, q1, q2, q3⟩ := m1.ex
    rw [List.drop_nil]
    exact ⟨rfl, xt, ⟨q1, q2, q3, m1⟩, Ow.nil _ _, (fun e => by cases e), (fun g e => by cases e)⟩)
  clear m1 hbb
  go_wp2_with fail
  go_loopw [9, 10] (fun l i v => ∃ (k : Nat) (x : Value) (L : List Int), k ≤ H.length ∧ l = x ∧ i = .int .i64 (k : Int) ∧ Below w.heap.size w v ∧ Hid (L.length = k ∧ ∃ xt, Two B b sz (L.drop (L.length - sz.toNat)) L xt x v)) (fun _ i _ => H.length - (intOf i).toNat)
  case atStart => exact ⟨0, _, [], by omega, rfl, rfl, hb1, S0⟩
  case round =>
    clear hb1 S0
    obtain ⟨k, xl, L, hk, ex, rfl, hb, hS⟩ := hrel
    replace ex := ex.symm
    subst ex
    obtain ⟨lk, xt, hS⟩ := hS.out
    by_cases hlt : k < H.length
    · obtain ⟨br, or_, rfl, -, c1⟩ := (RW.out _ hb).at hlt
      have h1 : (k : Int) < (H.length : Int) := by omega
      have h0 : 0 ≤ (k : Int) := by omega
      have L64 := Lib.hid (show L.length ≤ 100 by omega)
      replace lk := Lib.hid lk
      generalize wr = v0 at *
      replace hS := Lib.hid hS
      obtain ⟨y, ey⟩ : ∃ y, y = H.getD k 0 := ⟨_, rfl⟩
      rw [← ey] at c1
      replace ey := Lib.hid ey
      go_wp2_with fail
      refine (PT.out b _ xt y _ hS.out.t).mono ?_
      rintro e w2 ⟨rfl, xt', t2, pk, hxx⟩
      have S2 := Lib.hid (hS.out.put t2 pk hxx)
      have hb2 : Below w.heap.size w w2 := hb.trans (by rw [← eB]; exact S2.out.2)
      have c2 : w2.cell? ⟨br, or_ + k, none⟩ = some (.int .i64 y) := by
        obtain ⟨b9, o9, e9, -, c9⟩ := (RW.out _ hb2).at hlt
        injection e9 with e9
        injection e9 with e9 e10
        subst e9 e10
        rw [ey.out]
        exact c9
      clear hb c1 hS t2 pk hxx
      go_wp2_with fail
      refine (CL.out y _).mono ?_
      rintro e w3 ⟨rfl, rfl⟩
      have hA := Lib.hid ((Below.refl w2.heap.size w2).alloc (Nat.le_refl _) (.cells #[.int .i64 (trH y)] 2))
      have hO3 := Lib.hid (S2.out.1.o.bel hA.out)
      have hz2 := Lib.hid (show B ≤ (w2.alloc (.cells #[.int .i64 (trH y)] 2)).heap.size from by have := S2.out.1.t.t.hB; simp; omega)
      replace hb2 := Lib.hid hb2
      clear c2
      go_upto_region 7 with (first | (at_builtin; refine wpList_append_ow _ rfl (.tmp 43) (.tmp 49) rfl B xl L (trH y) rfl hO3.out hz2.out _ rfl (by go_simp) (by have := L64.out; omega) ?_; intro x2 w5 hO5 hk5 hx5))
      have S5 := S2.out.1.app hA.out hO5 hk5 hx5
      have hb5 : Below w.heap.size w w5 := hb2.out.trans (by rw [← eB]; exact S5.2)
      have hl5 : (L ++ [trH y]).length = L.length + 1 := by simp
      have S6 := Lib.hid (show (L ++ [trH y]).length = k + 1 ∧ ∃ xt, Two B b sz ((L ++ [trH y]).drop ((L ++ [trH y]).length - sz.toNat)) (L ++ [trH y]) xt x2 w5 from ⟨by rw [hl5, lk.out], _, by
        have := S5.1
        rw [trN_last y g] at this
        rw [hl5]
        exact this⟩)
      clear hA hO3 hz2 hk5 hx5 S2 hb2 S5 hO5 hl5
      go_wp2
      go_roundw
      case rel => exact ⟨k + 1, _, _, by omega, rfl, by go_num, hb5, S6⟩
      case measure => simp [intOf]; omega
    · have hge : (H.length : Int) ≤ (k : Int) := by omega
      have hge' : ¬ (k : Int) < (H.length : Int) := by omega
      have l100 : L.length ≤ 100 := by omega
      replace lk := Lib.hid lk
      clear RW PT CL
      obtain ⟨ao, cp, rfl, -, hnil⟩ := hS.o.row
      by_cases hc : (L.length : Int) ≤ sz
      · have hd : ¬ sz < (L.length : Int) := by omega
        rw [show L.length - sz.toNat = 0 by omega, List.drop_zero] at hS
        have S := hS
        clear hS hnil
        go_upto_region 12 with (fail)
        generalize L = N at *
        obtain ⟨ao6, eo6⟩ : ∃ ao6, ao6 = ao := ⟨_, rfl⟩
        obtain ⟨cap6, ec6⟩ : ∃ cap6, cap6 = cp := ⟨_, rfl⟩
        rw [← eo6, ← ec6] at S ⊢
        clear eo6 ec6 hd hc
        replace S := Lib.hid S
        by_cases h2N : N.length < 2
        · skip
          have h2I : (N.length : Int) < 2 := by omega
          go_wp2_with fail
          refine (LV.out _).mono ?_
          rintro e w20 ⟨rfl, hb20⟩
          have hb21 := Lib.hid (hb.trans (hb20.mono (hb).size))
          clear hb20
          go_wp2
          go_ret
          exact ⟨rfl, hb21.out⟩
        · skip
          have h2M : 2 ≤ N.length := by omega
          have h2I : ¬ (N.length : Int) < 2 := by omega
          have E1 := OU.out b N _ S.out.t.t h2M
          have E2 := fun x u m z => LA.out b N xt ao6 cap6 x u m h2M z
          have E3 := fun u m => WO.out b N u m h2M
          have n64 := Lib.hid S.out.few
          obtain ⟨D, eD⟩ : ∃ D, D = dfN (trM N) (trS N) N N.length := ⟨_, rfl⟩
          rw [← eD] at E1
          simp only [← eD] at E3
          replace E1 := Lib.hid E1
          replace E2 := Lib.hid E2
          replace E3 := Lib.hid E3
          replace eD := Lib.hid eD
          go_wp2_with fail
          refine E1.out.mono ?_
          rintro e w7 ⟨x7, rfl, hOi, hb7⟩
          have S7 := Lib.hid (S.out.bel hb7)
          have h7 := Lib.hid (hb.trans (hb7.mono hb.size))
          obtain ⟨ao7, cp7, rfl, hr7, hnil7⟩ := hOi.row
          have RO := Lib.hid (fun u (k : Below w7.heap.size w7 u) => hr7.below k)
          clear hb hb7 S hOi hr7 E1
          go_wp2_with fail
          go_loopw [11, 13, 14] (fun t q i v => ∃ k : Nat, k ≤ N.length ∧ t = .int .i64 (tpN D k) ∧ q = .int .i64 ((otN far D k).length : Int) ∧ i = .int .i64 (k : Int) ∧ Below w7.heap.size w7 v) (fun _ _ i _ => N.length - (intOf i).toNat)
          case atStart => exact ⟨0, by omega, rfl, rfl, rfl, Below.refl _ _⟩
          case round =>
            obtain ⟨k, hk, rfl, rfl, rfl, hb⟩ := hrel
            by_cases hlt : k < N.length
            · have SK := Lib.hid (S7.out.bel hb)
              obtain ⟨g9, o9, rfl, -, c1⟩ := SK.out.row.at hlt
              have h1 : (k : Int) < (N.length : Int) := by omega
              have h0 : (0 : Int) ≤ (k : Int) := by omega
              have k64 : (k : Int) ≤ 64 := by have := n64.out; omega
              have zb := SK.out.t.t.bd k hlt
              have lb := lnV_bd (m := trM N) (s := trS N) (n := (N.length : Int)) (x := (k : Int)) (by omega) (trM_bd SK.out.t.t.bd h2M n64.out) (trS_bd SK.out.t.t.bd h2M n64.out) ⟨by omega, by have := n64.out; omega⟩
              have eDk : D.getD k 0 = dfV (trM N) (trS N) N k := by rw [eD.out]; exact dfN_at _ _ _ hlt
              have E2k := fun u m => E2.out (k : Int) u m (by omega)
              unfold dfV at eDk
              generalize lnV (trM N) (trS N) (N.length : Int) (k : Int) = R at *
              generalize N.getD k 0 = z at *
              obtain ⟨Q, eQ⟩ : ∃ Q, Q = z - R := ⟨_, rfl⟩
              rw [← eQ] at eDk
              have AB := fun u => tabs Q u (by omega)
              rw [← eDk] at AB
              have m1 : IntKind.i64.wrap (z - R) = Q := by rw [IntKind.wrap_i64]; omega
              have eT : tpN D (k + 1) = max (tpN D k) (D.getD k 0) := rfl
              have hit := fun q => otN_hit (far := far) (D := D) (n := N.length) hlt q
              have miss := fun q => otN_miss (far := far) (D := D) (i := k) q
              generalize D.getD k 0 = V at *
              obtain ⟨T, eTT⟩ : ∃ T, T = tpN D (k + 1) := ⟨_, rfl⟩
              rw [← eTT] at eT
              have m2 : (if tpN D k < V then V else tpN D k) = T := by rw [eT]; omega
              generalize tpN D k = t at *
              replace AB := Lib.hid AB
              replace E2k := Lib.hid E2k
              replace eDk := Lib.hid eDk
              replace eT := Lib.hid eT
              replace eTT := Lib.hid eTT
              replace eQ := Lib.hid eQ
              replace hit := Lib.hid hit
              replace miss := Lib.hid miss
              clear zb lb
              go_wp2_with fail
              refine region_moves (fun u => u.cell? ⟨g9, o9 + k, none⟩ = some (.int .i64 z)) [] [(.free, 0), (.free, 1), (.free, 2), (.take, 3), (.free, 4), (.free, 5), (.step, 6), (.free, 7), (.step, 8), (.free, 9)] _ (by kernel_rfl) (by kernel_rfl) (by kernel_rfl) (by kernel_rfl) (by decide) rfl (fun _ _ _ _ _ h => h) ?_
              simp only [List.filterMap_cons, List.filterMap_nil, List.getElem?_toArray, List.getElem?_cons_zero, List.getElem?_cons_succ, Option.map_some]
              iterate 3
                first
                  | (refine mv_free ?_ (Or.inl ⟨by rfl, ?_⟩) (c1) ?_
                     rotate_left 1
                     · intro u
                       go_simp
                       try simp only [d1]
                       try simp only [d2]
                       try simp only [d3]
                       try with_reducible rfl
                     simp only [Act.put, List.setIfInBounds_toArray, List.set_cons_zero, List.set_cons_succ])
                  | (refine mv_free _ (Or.inr ⟨by rfl, rfl⟩) (c1) ?_
                     simp only [Act.put, List.setIfInBounds_toArray, List.set_cons_zero, List.set_cons_succ])
              iterate 1
                first
                  | (refine mv_take ?_ (Or.inl ⟨by rfl, ?_⟩) (c1) ?_
                     rotate_left 1
                     · intro u hu
                       (try dsimp only at hu)
                       go_simp
                       try with_reducible rfl
                     simp only [Act.put, List.setIfInBounds_toArray, List.set_cons_zero, List.set_cons_succ])
                  | (refine mv_take _ (Or.inr ⟨by rfl, rfl⟩) (c1) ?_
                     simp only [Act.put, List.setIfInBounds_toArray, List.set_cons_zero, List.set_cons_succ])
              iterate 2
                first
                  | (refine mv_free ?_ (Or.inl ⟨by rfl, ?_⟩) (c1) ?_
                     rotate_left 1
                     · intro u
                       go_simp
                       try simp only [d1]
                       try simp only [d2]
                       try simp only [d3]
                       try with_reducible rfl
                     simp only [Act.put, List.setIfInBounds_toArray, List.set_cons_zero, List.set_cons_succ])
                  | (refine mv_free _ (Or.inr ⟨by rfl, rfl⟩) (c1) ?_
                     simp only [Act.put, List.setIfInBounds_toArray, List.set_cons_zero, List.set_cons_succ])
              refine mv_step (fun K hK => ?_)
              go_simp
              refine (E2k.out _ SK.out.drew).mono ?_
              rintro e w8 ⟨rfl, rfl⟩
              go_wp2_with fail
              refine hK.out _ _ _ (fun u hu => hu) (c1) ?_
              clear hK K
              iterate 1
                first
                  | (refine mv_free ?_ (Or.inl ⟨by rfl, ?_⟩) (c1) ?_
                     rotate_left 1
                     · intro u
                       go_simp
                       try simp only [d1]
                       try simp only [d2]
                       try simp only [d3]
                       try with_reducible rfl
                     simp only [Act.put, List.setIfInBounds_toArray, List.set_cons_zero, List.set_cons_succ])
                  | (refine mv_free _ (Or.inr ⟨by rfl, rfl⟩) (c1) ?_
                     simp only [Act.put, List.setIfInBounds_toArray, List.set_cons_zero, List.set_cons_succ])
              refine mv_step (fun K hK => ?_)
              go_simp
              refine (AB.out _).mono ?_
              rintro e w8 ⟨rfl, rfl⟩
              go_wp2_with fail
              refine hK.out _ _ _ (fun u hu => hu) (c1) ?_
              clear hK K
              iterate 1
                first
                  | (refine mv_free ?_ (Or.inl ⟨by rfl, ?_⟩) (c1) ?_
                     rotate_left 1
                     · intro u
                       go_simp
                       try simp only [d1]
                       try simp only [d2]
                       try simp only [d3]
                       try with_reducible rfl
                     simp only [Act.put, List.setIfInBounds_toArray, List.set_cons_zero, List.set_cons_succ])
                  | (refine mv_free _ (Or.inr ⟨by rfl, rfl⟩) (c1) ?_
                     simp only [Act.put, List.setIfInBounds_toArray, List.set_cons_zero, List.set_cons_succ])
              refine mv_done ?_
              have hb' := hb.drew
              clear hb SK
              by_cases hf : far < V
              · obtain ⟨i1, i2, i3⟩ := hit.out hf
                have nf : ¬ V ≤ far := by omega
                obtain ⟨g8, o8, rfl, -, c2⟩ := (RO.out _ hb').at i1
                rw [i2] at c2
                have cb := otN_len far D k
                obtain ⟨c, ec⟩ : ∃ c, c = (otN far D k).length := ⟨_, rfl⟩
                obtain ⟨O, eO⟩ : ∃ O, O = otN far D N.length := ⟨_, rfl⟩
                rw [← ec] at i1 i3 cb c2 ⊢
                (try rw [← eO] at i1); (try rw [← eO] at c2); (try rw [← eO])
                replace ec := Lib.hid ec
                replace eO := Lib.hid eO
                have j1 : (c : Int) < (O.length : Int) := by omega
                have j2 : ¬ (O.length : Int) ≤ (c : Int) := by omega
                have j0 : (0 : Int) ≤ (c : Int) := by omega
                have c64 : (c : Int) ≤ 64 := by omega
                replace i3 := Lib.hid i3
                clear i2 hit miss
                go_wp2
                go_roundw
                case rel => exact ⟨u6, _, _, _, ⟨k + 1, by omega, rfl, rfl, rfl⟩, rfl, by rw [eTT.out], by rw [eO.out], by rw [i3.out]; go_num, by go_num, by rw [eO.out]⟩
                case measure => simp [intOf]; omega
              · have nf : V ≤ far := by omega
                have ms := Lib.hid (miss.out (by first | exact hf | omega))
                clear hit miss
                go_wp2
                go_roundw
                case rel => exact ⟨k + 1, by omega, by rw [eTT.out], by rw [ms.out], by go_num, hb'⟩
                case measure => simp [intOf]; omega
            · have hge : (N.length : Int) ≤ (k : Int) := by omega
              obtain rfl : k = N.length := by omega
              have eM : tpN D N.length = mxN D N.length := by
                obtain ⟨j, ej⟩ : ∃ j, N.length = j + 1 := ⟨N.length - 1, by omega⟩
                rw [ej]
                exact tpN_mx (fun i => by rw [eD.out]; exact dfN_pos _ _ _ _ i) j
              have E4 := E3.out _ (S7.out.bel hb).t.t
              rw [← eM] at E4
              replace E4 := Lib.hid E4
              replace eM := Lib.hid eM
              have h9 := Lib.hid (h7.out.trans (hb.mono h7.out.size))
              clear hge hb
              go_wp2_with fail
              refine E4.out.mono ?_
              rintro e w9 ⟨rfl, hb9⟩
              have h10 := h9.out.trans (hb9.mono h9.out.size)
              clear hb9
              go_wp2_with fail
              refine (LV.out _).mono ?_
              rintro e w20 ⟨rfl, hb20⟩
              have hb21 := Lib.hid (h10.trans (hb20.mono h10.size))
              clear hb20
              go_wp2
              go_ret
              exact ⟨rfl, hb21.out⟩
      · have hd : sz < (L.length : Int) := by omega
        obtain ⟨d, ed⟩ : ∃ d, d = L.length - sz.toNat := ⟨_, rfl⟩
        have hN : (L.drop d).length = L.length - d := by simp
        obtain ⟨g1, off, rfl, hcp⟩ : ∃ g1 off, ao = some ⟨g1, off, none⟩ ∧ L.length ≤ cp := by
          rcases hS.o with ⟨_, e⟩ | ⟨g1, off, cap5, cur, e, _, _, hle, _⟩
          · rw [e] at hd; simp at hd; omega
          · injection e with e1 e2 e3
            exact ⟨g1, off, e1, by rw [e3]; exact hle⟩
        rw [← ed] at hS
        have S : Two B b sz (L.drop d) (L.drop d) xt (.slice (some ⟨g1, off + d, none⟩) (L.length - d) (cp - d)) wr := ⟨hS.t, hS.o.tail (by omega), hS.n, hS.d⟩
        have e1 : IntKind.i64.wrap ((L.length : Int) - sz) = (d : Int) := by rw [IntKind.wrap_i64]; omega
        have e2 : (d : Int) ≤ (L.length : Int) := by omega
        have e3 : 0 ≤ (d : Int) := by omega
        have e4 : cp ≠ d := by omega
        have e5 : cp - d ≠ 0 := by omega
        have e6 : d ≤ L.length := by omega
        clear hS hnil ed
        go_upto_region 12 with (fail)
        rw [← hN] at S ⊢
        clear hcp e1 e2 e3 e4 e5 e6 hd hc
        generalize L.drop d = N at *
        obtain ⟨ao6, eo6⟩ : ∃ ao6, ao6 = some (⟨g1, off + d, none⟩ : Addr) := ⟨_, rfl⟩
        obtain ⟨cap6, ec6⟩ : ∃ cap6, cap6 = cp - d := ⟨_, rfl⟩
        rw [← eo6, ← ec6] at S ⊢
        clear eo6 ec6 hN
        replace S := Lib.hid S
        by_cases h2N : N.length < 2
        · skip
          have h2I : (N.length : Int) < 2 := by omega
          go_wp2_with fail
          refine (LV.out _).mono ?_
          rintro e w20 ⟨rfl, hb20⟩
          have hb21 := Lib.hid (hb.trans (hb20.mono (hb).size))
          clear hb20
          go_wp2
          go_ret
          exact ⟨rfl, hb21.out⟩
        · skip
          have h2M : 2 ≤ N.length := by omega
          have h2I : ¬ (N.length : Int) < 2 := by omega
          have E1 := OU.out b N _ S.out.t.t h2M
          have E2 := fun x u m z => LA.out b N xt ao6 cap6 x u m h2M z
          have E3 := fun u m => WO.out b N u m h2M
          have n64 := Lib.hid S.out.few
          obtain ⟨D, eD⟩ : ∃ D, D = dfN (trM N) (trS N) N N.length := ⟨_, rfl⟩
          rw [← eD] at E1
          simp only [← eD] at E3
          replace E1 := Lib.hid E1
          replace E2 := Lib.hid E2
          replace E3 := Lib.hid E3
          replace eD := Lib.hid eD
          go_wp2_with fail
          refine E1.out.mono ?_
          rintro e w7 ⟨x7, rfl, hOi, hb7⟩
          have S7 := Lib.hid (S.out.bel hb7)
          have h7 := Lib.hid (hb.trans (hb7.mono hb.size))
          obtain ⟨ao7, cp7, rfl, hr7, hnil7⟩ := hOi.row
          have RO := Lib.hid (fun u (k : Below w7.heap.size w7 u) => hr7.below k)
          clear hb hb7 S hOi hr7 E1
          go_wp2_with fail
          go_loopw [11, 13, 14] (fun t q i v => ∃ k : Nat, k ≤ N.length ∧ t = .int .i64 (tpN D k) ∧ q = .int .i64 ((otN far D k).length : Int) ∧ i = .int .i64 (k : Int) ∧ Below w7.heap.size w7 v) (fun _ _ i _ => N.length - (intOf i).toNat)
          case atStart => exact ⟨0, by omega, rfl, rfl, rfl, Below.refl _ _⟩
          case round =>
            obtain ⟨k, hk, rfl, rfl, rfl, hb⟩ := hrel
            by_cases hlt : k < N.length
            · have SK := Lib.hid (S7.out.bel hb)
              obtain ⟨g9, o9, rfl, -, c1⟩ := SK.out.row.at hlt
              have h1 : (k : Int) < (N.length : Int) := by omega
              have h0 : (0 : Int) ≤ (k : Int) := by omega
              have k64 : (k : Int) ≤ 64 := by have := n64.out; omega
              have zb := SK.out.t.t.bd k hlt
              have lb := lnV_bd (m := trM N) (s := trS N) (n := (N.length : Int)) (x := (k : Int)) (by omega) (trM_bd SK.out.t.t.bd h2M n64.out) (trS_bd SK.out.t.t.bd h2M n64.out) ⟨by omega, by have := n64.out; omega⟩
              have eDk : D.getD k 0 = dfV (trM N) (trS N) N k := by rw [eD.out]; exact dfN_at _ _ _ hlt
              have E2k := fun u m => E2.out (k : Int) u m (by omega)
              unfold dfV at eDk
              generalize lnV (trM N) (trS N) (N.length : Int) (k : Int) = R at *
              generalize N.getD k 0 = z at *
              obtain ⟨Q, eQ⟩ : ∃ Q, Q = z - R := ⟨_, rfl⟩
              rw [← eQ] at eDk
              have AB := fun u => tabs Q u (by omega)
              rw [← eDk] at AB
              have m1 : IntKind.i64.wrap (z - R) = Q := by rw [IntKind.wrap_i64]; omega
              have eT : tpN D (k + 1) = max (tpN D k) (D.getD k 0) := rfl
              have hit := fun q => otN_hit (far := far) (D := D) (n := N.length) hlt q
              have miss := fun q => otN_miss (far := far) (D := D) (i := k) q
              generalize D.getD k 0 = V at *
              obtain ⟨T, eTT⟩ : ∃ T, T = tpN D (k + 1) := ⟨_, rfl⟩
              rw [← eTT] at eT
              have m2 : (if tpN D k < V then V else tpN D k) = T := by rw [eT]; omega
              generalize tpN D k = t at *
              replace AB := Lib.hid AB
              replace E2k := Lib.hid E2k
              replace eDk := Lib.hid eDk
              replace eT := Lib.hid eT
              replace eTT := Lib.hid eTT
              replace eQ := Lib.hid eQ
              replace hit := Lib.hid hit
              replace miss := Lib.hid miss
              clear zb lb
              go_wp2_with fail
              refine region_moves (fun u => u.cell? ⟨g9, o9 + k, none⟩ = some (.int .i64 z)) [] [(.free, 0), (.free, 1), (.free, 2), (.take, 3), (.free, 4), (.free, 5), (.step, 6), (.free, 7), (.step, 8), (.free, 9)] _ (by kernel_rfl) (by kernel_rfl) (by kernel_rfl) (by kernel_rfl) (by decide) rfl (fun _ _ _ _ _ h => h) ?_
              simp only [List.filterMap_cons, List.filterMap_nil, List.getElem?_toArray, List.getElem?_cons_zero, List.getElem?_cons_succ, Option.map_some]
              iterate 3
                first
                  | (refine mv_free ?_ (Or.inl ⟨by rfl, ?_⟩) (c1) ?_
                     rotate_left 1
                     · intro u
                       go_simp
                       try simp only [d1]
                       try simp only [d2]
                       try simp only [d3]
                       try with_reducible rfl
                     simp only [Act.put, List.setIfInBounds_toArray, List.set_cons_zero, List.set_cons_succ])
                  | (refine mv_free _ (Or.inr ⟨by rfl, rfl⟩) (c1) ?_
                     simp only [Act.put, List.setIfInBounds_toArray, List.set_cons_zero, List.set_cons_succ])
              iterate 1
                first
                  | (refine mv_take ?_ (Or.inl ⟨by rfl, ?_⟩) (c1) ?_
                     rotate_left 1
                     · intro u hu
                       (try dsimp only at hu)
                       go_simp
                       try with_reducible rfl
                     simp only [Act.put, List.setIfInBounds_toArray, List.set_cons_zero, List.set_cons_succ])
                  | (refine mv_take _ (Or.inr ⟨by rfl, rfl⟩) (c1) ?_
                     simp only [Act.put, List.setIfInBounds_toArray, List.set_cons_zero, List.set_cons_succ])
              iterate 2
                first
                  | (refine mv_free ?_ (Or.inl ⟨by rfl, ?_⟩) (c1) ?_
                     rotate_left 1
                     · intro u
                       go_simp
                       try simp only [d1]
                       try simp only [d2]
                       try simp only [d3]
                       try with_reducible rfl
                     simp only [Act.put, List.setIfInBounds_toArray, List.set_cons_zero, List.set_cons_succ])
                  | (refine mv_free _ (Or.inr ⟨by rfl, rfl⟩) (c1) ?_
                     simp only [Act.put, List.setIfInBounds_toArray, List.set_cons_zero, List.set_cons_succ])
              refine mv_step (fun K hK => ?_)
              go_simp
              refine (E2k.out _ SK.out.drew).mono ?_
              rintro e w8 ⟨rfl, rfl⟩
              go_wp2_with fail
              refine hK.out _ _ _ (fun u hu => hu) (c1) ?_
              clear hK K
              iterate 1
                first
                  | (refine mv_free ?_ (Or.inl ⟨by rfl, ?_⟩) (c1) ?_
                     rotate_left 1
                     · intro u
                       go_simp
                       try simp only [d1]
                       try simp only [d2]
                       try simp only [d3]
                       try with_reducible rfl
                     simp only [Act.put, List.setIfInBounds_toArray, List.set_cons_zero, List.set_cons_succ])
                  | (refine mv_free _ (Or.inr ⟨by rfl, rfl⟩) (c1) ?_
                     simp only [Act.put, List.setIfInBounds_toArray, List.set_cons_zero, List.set_cons_succ])
              refine mv_step (fun K hK => ?_)
              go_simp
              refine (AB.out _).mono ?_
              rintro e w8 ⟨rfl, rfl⟩
              go_wp2_with fail
              refine hK.out _ _ _ (fun u hu => hu) (c1) ?_
              clear hK K
              iterate 1
                first
                  | (refine mv_free ?_ (Or.inl ⟨by rfl, ?_⟩) (c1) ?_
                     rotate_left 1
                     · intro u
                       go_simp
                       try simp only [d1]
                       try simp only [d2]
                       try simp only [d3]
                       try with_reducible rfl
                     simp only [Act.put, List.setIfInBounds_toArray, List.set_cons_zero, List.set_cons_succ])
                  | (refine mv_free _ (Or.inr ⟨by rfl, rfl⟩) (c1) ?_
                     simp only [Act.put, List.setIfInBounds_toArray, List.set_cons_zero, List.set_cons_succ])
              refine mv_done ?_
              have hb' := hb.drew
              clear hb SK
              by_cases hf : far < V
              · obtain ⟨i1, i2, i3⟩ := hit.out hf
                have nf : ¬ V ≤ far := by omega
                obtain ⟨g8, o8, rfl, -, c2⟩ := (RO.out _ hb').at i1
                rw [i2] at c2
                have cb := otN_len far D k
                obtain ⟨c, ec⟩ : ∃ c, c = (otN far D k).length := ⟨_, rfl⟩
                obtain ⟨O, eO⟩ : ∃ O, O = otN far D N.length := ⟨_, rfl⟩
                rw [← ec] at i1 i3 cb c2 ⊢
                (try rw [← eO] at i1); (try rw [← eO] at c2); (try rw [← eO])
                replace ec := Lib.hid ec
                replace eO := Lib.hid eO
                have j1 : (c : Int) < (O.length : Int) := by omega
                have j2 : ¬ (O.length : Int) ≤ (c : Int) := by omega
                have j0 : (0 : Int) ≤ (c : Int) := by omega
                have c64 : (c : Int) ≤ 64 := by omega
                replace i3 := Lib.hid i3
                clear i2 hit miss
                go_wp2
                go_roundw
                case rel => exact ⟨u6, _, _, _, ⟨k + 1, by omega, rfl, rfl, rfl⟩, rfl, by rw [eTT.out], by rw [eO.out], by rw [i3.out]; go_num, by go_num, by rw [eO.out]⟩
                case measure => simp [intOf]; omega
              · have nf : V ≤ far := by omega
                have ms := Lib.hid (miss.out (by first | exact hf | omega))
                clear hit miss
                go_wp2
                go_roundw
                case rel => exact ⟨k + 1, by omega, by rw [eTT.out], by rw [ms.out], by go_num, hb'⟩
                case measure => simp [intOf]; omega
            · have hge : (N.length : Int) ≤ (k : Int) := by omega
              obtain rfl : k = N.length := by omega
              have eM : tpN D N.length = mxN D N.length := by
                obtain ⟨j, ej⟩ : ∃ j, N.length = j + 1 := ⟨N.length - 1, by omega⟩
                rw [ej]
                exact tpN_mx (fun i => by rw [eD.out]; exact dfN_pos _ _ _ _ i) j
              have E4 := E3.out _ (S7.out.bel hb).t.t
              rw [← eM] at E4
              replace E4 := Lib.hid E4
              replace eM := Lib.hid eM
              have h9 := Lib.hid (h7.out.trans (hb.mono h7.out.size))
              clear hge hb
              go_wp2_with fail
              refine E4.out.mono ?_
              rintro e w9 ⟨rfl, hb9⟩
              have h10 := h9.out.trans (hb9.mono h9.out.size)
              clear hb9
              go_wp2_with fail
              refine (LV.out _).mono ?_
              rintro e w20 ⟨rfl, hb20⟩
              have hb21 := Lib.hid (h10.trans (hb20.mono h10.size))
              clear hb20
              go_wp2
              go_ret
              exact ⟨rfl, hb21.out⟩
end Go.Proofs.Yticecjjlafmclaa
