/- The law BusWatches; walked. -/
import Derived.Test.YtcpmdgbogdikiaaBus12
import Derived.Test.YtcpmdgbogdikiaaGridb
namespace Go.Proofs.Ytcpmdgbogdikiaa
open Go.ChangeShapes Go.WideShapes Go.ChangeAt Go.RowKit
set_option linter.unusedVariables false
set_option linter.unusedSimpArgs false
set_option maxRecDepth 100000 in
set_option maxHeartbeats 16000000 in
theorem law_BusWatches (a : Option Addr) (cap n : Nat) (N P F : Nat → Int) (pa : Int) (ga : Option Addr) (A : Nat → Option Addr) (C : Nat → Nat) (Z : List (List Int)) (gc : Nat) (w : World) (h : Pl w a n N P F) (hcap : n ≤ cap) (hn : n ≤ maxLen) (hG : GridIs .u32 w ga A C Z) (hZ : Z.length ≤ maxLen) (hv : ∀ i, i < Z.length → (Z.getD i []).length ≤ maxLen ∧ ∀ n ∈ Z.getD i [], (Lit.int .u32 n).wf = true) : Calls Try.prog 6 #[.slice a n cap, .int .i64 pa, .slice ga Z.length gc] w fun e w' => e = .returned (.bool true) ∧ Below w.heap.size w w' := by
  have LV := Lib.hid (fun u => lives46 u)
  have hw := Lib.hid (Below.refl w.heap.size w)
  have HH := Lib.hid (fun u (k : Below w.heap.size w u) => h.below k)
  have hn' : (n : Int) ≤ 9223372036854775807 := by unfold maxLen at hn; omega
  have hm' : (Z.length : Int) ≤ 9223372036854775807 := by unfold maxLen at hZ; omega
  by_cases q : 300 < n
  · have q1 : (300 : Int) < (n : Int) := by omega
    have q2 : decide ((300 : Int) < (n : Int)) = true := decide_eq_true q1
    go_enter Try.func6, Try.ntmps6
    go_wp2_with fail
    refine (LV.out _).mono ?_
    rintro e u9 ⟨rfl, hb9⟩
    have hb8 := Lib.hid (show Below w.heap.size w u9 from hw.out.trans (hb9.mono hw.out.size))
    clear hb9
    go_wp2
    go_ret
    exact ⟨rfl, hb8.out⟩
  have q1 : ¬ (300 : Int) < (n : Int) := by omega
  have q2 : decide ((300 : Int) < (n : Int)) = false := decide_eq_false q1
  by_cases q0 : 100 < Z.length
  · have q3 : (100 : Int) < (Z.length : Int) := by omega
    have q4 : decide ((100 : Int) < (Z.length : Int)) = true := decide_eq_true q3
    go_enter Try.func6, Try.ntmps6
    go_wp2_with fail
    refine (LV.out _).mono ?_
    rintro e u9 ⟨rfl, hb9⟩
    have hb8 := Lib.hid (show Below w.heap.size w u9 from hw.out.trans (hb9.mono hw.out.size))
    clear hb9
    go_wp2
    go_ret
    exact ⟨rfl, hb8.out⟩
  have q3 : ¬ (100 : Int) < (Z.length : Int) := by omega
  have q4 : decide ((100 : Int) < (Z.length : Int)) = false := decide_eq_false q3
  by_cases ep : rtB n N P F = true
  case neg =>
    have NW := Lib.hid (bnew_no a cap n N P F pa w h hcap (by omega) (Bool.eq_false_iff.2 ep))
    have z1 : ((1 : Int) != 0) = true := by decide
    clear h hcap
    go_enter Try.func6, Try.ntmps6
    go_wp2_with fail
    refine NW.out.mono ?_
    rintro e w2 ⟨rfl, hb⟩
    have h2 := Lib.hid hb
    clear hb NW
    go_wp2_with fail
    refine (LV.out _).mono ?_
    rintro e u9 ⟨rfl, hb9⟩
    have hb8 := Lib.hid (show Below w.heap.size w u9 from h2.out.trans (hb9.mono h2.out.size))
    clear hb9
    go_wp2
    go_ret
    exact ⟨rfl, hb8.out⟩
  by_cases z1 : ¬ (1 ≤ pa ∧ pa ≤ 10)
  · have NW := Lib.hid (bnew_bad a cap n N P F pa w h hcap (by omega) ep z1)
    have z1 : ((2 : Int) != 0) = true := by decide
    clear h hcap
    go_enter Try.func6, Try.ntmps6
    go_wp2_with fail
    refine NW.out.mono ?_
    rintro e w2 ⟨rfl, hb⟩
    have h2 := Lib.hid hb
    clear hb NW
    go_wp2_with fail
    refine (LV.out _).mono ?_
    rintro e u9 ⟨rfl, hb9⟩
    have hb8 := Lib.hid (show Below w.heap.size w u9 from h2.out.trans (hb9.mono h2.out.size))
    clear hb9
    go_wp2
    go_ret
    exact ⟨rfl, hb8.out⟩
  have PA := Lib.hid (show 1 ≤ pa ∧ pa ≤ 10 by omega)
  have hr := of_decide_eq_true ep
  obtain ⟨b, off, ea, -, -, -, -⟩ := h.at (show 0 < n by omega)
  subst ea
  have HS := Lib.hid (fun i (hi : i < n) => (hr.2.2 i hi).1)
  have UQ := Lib.hid (fun i j (hi : i < n) (hj : j < n) (e : N i = N j) => show i = j by
    rcases Nat.lt_trichotomy i j with q | q | q
    · exact absurd e ((hr.2.2 j hj).2 i q)
    · exact q
    · exact absurd e.symm ((hr.2.2 i hi).2 j q))
  have hn2 : n ≤ 32 := by omega
  have NW := Lib.hid (bnewx b off cap n N P F pa w h hcap ep PA.out)
  have LT := Lib.hid (fun c s x => st1_lt ep c s x)
  have mk1 := fun u => mk_u32 n (by omega) u
  have mk2 := fun u => mk_int n (by omega) u
  have ng : (0 : Int) ≤ (n : Int) := by omega
  have GR := Lib.hid (fun u (k : Below w.heap.size w u) => hG.below k)
  have RW := Lib.hid (fun i (hi : i < Z.length) (h1 : 1 ≤ (Z.getD i []).length) b (hb : A i = some b) => show b.block < w.heap.size by
    obtain ⟨b', o', e', hlt, -⟩ := (hG.rows i hi).at (show 0 < (Z.getD i []).length by omega)
    rw [hb] at e'
    injection e' with e'
    subst e'
    exact hlt)
  have HV := Lib.hid (fun i (hi : i < Z.length) x (hx : x ∈ Z.getD i []) => u32_bd ((hv i hi).2 x hx))
  have WS0 := Lib.hid (wsN_K N n Z)
  have WSN := Lib.hid (fun k => show wsN N n Z (k + 1) = (Z.getD k []).foldl (st1 N n ((k : Int) + 1)) ⟨(wsN N n Z k).W, (wsN N n Z k).K, (wsN N n Z k).T, 0⟩ from rfl)
  have WSZ := Lib.hid (show wsN N n Z 0 = ⟨fun _ => 0, fun _ => false, fun _ => 0, 0⟩ from rfl)
  clear h hcap hr hG hv ep z1 hn hZ q q0 q1 q2
  have q1 : ¬ (300 : Int) < (n : Int) := by omega
  have q2 : decide ((300 : Int) < (n : Int)) = false := decide_eq_false q1
  generalize wsN N n Z = S at *
  obtain ⟨l, el⟩ : ∃ l, Z.length = l := ⟨_, rfl⟩
  have EL := Lib.hid el
  rw [el] at q3 q4 hm' ⊢
  clear el
  go_enter Try.func6, Try.ntmps6
  go_wp2_with fail
  refine NW.out.mono ?_
  rintro e w2 ⟨p, q, g, tc, rfl, hN⟩
  replace hN := Lib.hid hN
  clear NW
  go_upto_region 6 with (fail)
  have l100 : l ≤ 100 := by omega
  clear q1 q2 q3 q4
  go_cut [9, 10] from 14 (fun s9 s10 u => ∃ g1 g2, s9 = .slice (some ⟨g1, 0, none⟩) n n ∧ s10 = .slice (some ⟨g2, 0, none⟩) n n ∧ Hid (LbW w2.heap.size g1 g2 n (fun _ => .int .u32 0) (fun _ => .int .i64 0) w2 u))
  case first =>
    go_region
    all_goals
      go_wp2_with fail
      go_meet
    case rel => exact ⟨_, _, rfl, rfl, Lib.hid (LbW.made w2 n _ _)⟩
    case rel => exact ⟨_, _, rfl, rfl, Lib.hid (LbW.made2 w2 n _ _)⟩
  case rest =>
    obtain ⟨g1, g2, rfl, rfl, hR⟩ := hcut
    clear mk1 mk2
    have B0 := Lib.hid (show BwS g1 g2 p q g tc n N P F pa 0 (fun _ => 0) (fun _ => false) (fun _ => 0) (fun _ => 0) (fun _ => 0) w wc from ⟨hN.out.r.bel hR.out.bel, hR.out.r1, hR.out.r2, hN.out.b.trans (hR.out.bel.mono hN.out.b.size), hR.out.ne, by have := hR.out.h1; have := hN.out.r.h.lt; have := hN.out.r.qz; have := hN.out.r.gz; omega, by have := hR.out.h2; have := hN.out.r.h.lt; have := hN.out.r.qz; have := hN.out.r.gz; omega, by have := hR.out.h1; have := hR.out.h2; have := hN.out.lp; have := hN.out.lq; have := hN.out.b.size; omega⟩)
    clear hR hN
    go_wp2_with fail
    go_loopw [11] (fun t v => ∃ k : Nat, k ≤ l ∧ t = .int .i64 ((k : Int) + 1) ∧ Hid (BwS g1 g2 p q g tc n N P F pa k (S k).W (S k).K (S k).T (S k).W (S k).T w v)) (fun t _ => l + 1 - (intOf t).toNat)
    case atStart => exact ⟨0, by omega, rfl, by rw [WSZ.out]; exact B0⟩
    case round =>
      clear B0
      obtain ⟨k, hk, rfl, hB⟩ := hrel
      generalize wr = v at *
      by_cases hlt : k < l
      · have hkz : k < Z.length := by rw [EL.out]; exact hlt
        obtain ⟨gb, go_, ea, -, x0⟩ := (GR.out v hB.out.b).at hkz
        subst ea
        have j1 : (k : Int) + 1 ≤ (l : Int) := by omega
        have j2 : IntKind.i64.wrap ((k : Int) + 1 - 1) = (k : Int) := by rw [IntKind.wrap_i64]; omega
        have j4 : (k : Int) < (l : Int) := by omega
        have j3 : 0 ≤ (k : Int) := by omega
        have j5 : IntKind.i64.wrap ((k : Int) + 1 + 1) = (k : Int) + 1 + 1 := by rw [IntKind.wrap_i64]; omega
        have RR := Lib.hid (fun u (b : Below w.heap.size w u) => (GR.out u b).rows k hkz)
        have RB := Lib.hid (RW.out k hkz)
        have RV := Lib.hid (HV.out k hkz)
        have SN := WSN.out k
        have SK := Lib.hid (WS0.out k)
        have SK2 := Lib.hid (WS0.out (k + 1))
        generalize Z.getD k [] = L at *
        obtain ⟨ls, els⟩ : ∃ z, L.length = z := ⟨_, rfl⟩
        rw [els] at x0
        have ELS := Lib.hid els
        clear els
        by_cases hq : 100 < ls
        · have q1 : (100 : Int) < (ls : Int) := by omega
          have hb3 := Lib.hid (hB.out.b)
          go_wp2_with fail
          refine (LV.out _).mono ?_
          rintro e u9 ⟨rfl, hb9⟩
          have hb8 := Lib.hid (show Below w.heap.size w u9 from hb3.out.trans (hb9.mono hb3.out.size))
          clear hb9
          go_wp2
          go_ret
          exact ⟨rfl, hb8.out⟩
        have q1 : ¬ (100 : Int) < (ls : Int) := by omega
        obtain ⟨FS, eFS⟩ : ∃ FS : Nat → WS, ∀ m, FS m = (L.take m).foldl (st1 N n ((k : Int) + 1)) ⟨(S k).W, (S k).K, (S k).T, 0⟩ := ⟨_, fun _ => rfl⟩
        have F0 := Lib.hid (show FS 0 = ⟨(S k).W, (S k).K, (S k).T, 0⟩ by rw [eFS]; rfl)
        have FE := Lib.hid (show FS ls = S (k + 1) by rw [eFS, SN, ← ELS.out, List.take_length])
        have FN := Lib.hid (fun m (hm : m < ls) => show FS (m + 1) = st1 N n ((k : Int) + 1) (FS m) (L.getD m 0) by rw [eFS, eFS, take_snoc (by rw [ELS.out]; exact hm), List.foldl_append]; rfl)
        have FM := Lib.hid (show ∀ m, m ≤ ls → (FS m).m ≤ m from fun m => by
          induction m with
          | zero => intro _; rw [F0.out]; exact Nat.le_refl _
          | succ m ih =>
            intro hm
            have i := ih (by omega)
            rw [FN.out m (by omega), (LT.out _ _ _).2.2]
            split <;> omega)
        replace SN := Lib.hid SN
        clear eFS
        go_wp2_with fail
        go_loopw [13, 14] (fun s i u => ∃ m : Nat, m ≤ ls ∧ s = .int .i64 ((FS m).m : Nat) ∧ i = .int .i64 (m : Int) ∧ Hid (BwS g1 g2 p q g tc n N P F pa k (S k).W (S k).K (S k).T (FS m).W (FS m).T w u)) (fun _ i _ => ls - (intOf i).toNat)
        case atStart => exact ⟨0, by omega, by rw [F0.out]; rfl, rfl, by rw [F0.out]; exact hB⟩
        case round =>
          clear hB x0
          obtain ⟨m, hm, rfl, rfl, hB⟩ := hrel
          generalize wr = v at *
          have M1 := FM.out m hm
          by_cases hml : m < ls
          · have hmL : m < L.length := by rw [ELS.out]; exact hml
            obtain ⟨rb, ro, er, -, -⟩ := (RR.out v hB.out.b).at hmL
            have hx := RV.out (L.getD m 0) (by simp [List.getD, hmL])
            have XC := Lib.hid (fun u (b : Below w.heap.size w u) => show u.cell? ⟨rb, ro + m, none⟩ = some (.int .u32 (L.getD m 0)) by
              obtain ⟨b', o', e', -, c'⟩ := (RR.out u b).at hmL
              rw [er] at e'
              injection e' with e'
              injection e' with e1 e2
              subst e1 e2
              exact c')
            rw [er]
            have FK := FN.out m hml
            obtain ⟨x, ex⟩ : ∃ x, L.getD m 0 = x := ⟨_, rfl⟩
            rw [ex] at XC hx FK
            obtain ⟨f1, f2, f3⟩ := LT.out ((k : Int) + 1) (FS m) x
            rw [← FK] at f1 f2 f3
            obtain ⟨s, es⟩ : ∃ s, FS m = s := ⟨_, rfl⟩
            rw [es] at hB f1 f2 f3 M1 ⊢
            have f1 := Lib.hid f1
            have f2 := Lib.hid f2
            have f3 := Lib.hid f3
            clear FK ex es hmL
            have j6 : (m : Int) < (ls : Int) := by omega
            have j7 : IntKind.i64.wrap ((m : Int) + 1) = (m : Int) + 1 := by rw [IntKind.wrap_i64]; omega
            have j8 : 0 ≤ (m : Int) := by omega
            have s1 : IntKind.i64.wrap ((s.m : Int) + 1) = ((s.m + 1 : Nat) : Int) := by rw [IntKind.wrap_i64]; omega
            have ON := Lib.hid (fun u => rones_any x (by omega) (by omega) u)
            have OB := onI_bd x 40
            have hX0 := Lib.hid hx
            go_wp2_with fail
            go_loopw [15, 16] (fun f j u => ∃ r : Nat, r ≤ n ∧ f = .bool (ltB N x r) ∧ j = .int .i64 (r : Int) ∧ Hid (BwS g1 g2 p q g tc n N P F pa k (S k).W (S k).K (S k).T (ltW N x r x s.W) (ltW N x r ((k : Int) + 1) s.T) w u)) (fun _ j _ => n - (intOf j).toNat)
            case atStart => exact ⟨0, by omega, rfl, rfl, by rw [ltW_zero, ltW_zero]; exact hB⟩
            case round =>
              clear hB
              obtain ⟨r, hr, rfl, rfl, hB⟩ := hrel
              generalize wr = v at *
              by_cases hrn : r < n
              · obtain ⟨b2, off2, ea2, -, m1, -, -⟩ := (HH.out v hB.out.b).at hrn
                injection ea2 with ea2
                injection ea2 with e1 e2
                subst e1 e2
                have m2 := XC.out v hB.out.b
                have i1 : (r : Int) < (n : Int) := by omega
                have i2 : IntKind.i64.wrap ((r : Int) + 1) = (r : Int) + 1 := by rw [IntKind.wrap_i64]; omega
                have i3 : 0 ≤ (r : Int) := by omega
                have t1 : x.tmod 256 = x % 256 := Int.tmod_eq_emod_of_nonneg hx.1
                have t2 : IntKind.u32.wrap (x % 256) = x % 256 := by rw [IntKind.wrap_u32]; omega
                have t3 : IntKind.i64.wrap (x % 256) = x % 256 := by rw [IntKind.wrap_i64]; omega
                have t4 : IntKind.i64.wrap x = x := by rw [IntKind.wrap_i64]; omega
                have o1 : (onI x 40).tmod 2 = onI x 40 % 2 := Int.tmod_eq_emod_of_nonneg (by omega)
                have o2 : IntKind.i64.wrap (onI x 40 % 2) = onI x 40 % 2 := by rw [IntKind.wrap_i64]; omega
                have hBd := Lib.hid (hB.out.next (Below.refl _ _).drew)
                have BS := Lib.hid (ltB_succ N x r)
                by_cases z : N r = x % 256
                · have zb : (N r == x % 256) = true := beq_iff_eq.2 z
                  obtain ⟨o, eo⟩ : ∃ o, (onI x 40 % 2 == 1) = o := ⟨_, rfl⟩
                  have eoB : odB x = o := by rw [← eo]; unfold odB; rw [Bool.eq_iff_iff]; simp
                  clear OB
                  go_upto_region 21 with (fail)
                  refine region_moves (fun u => u.cell? ⟨b, off + r * 3, none⟩ = some (.int .i64 (N r)) ∧ u.cell? ⟨rb, ro + m, none⟩ = some (.int .u32 x)) [] [(.free, 0), (.free, 1), (.free, 2), (.free, 3), (.take, 4), (.free, 5), (.free, 6), (.free, 7), (.take, 8), (.free, 9), (.free, 10), (.free, 11), (.free, 12), (.free, 13), (.free, 14), (.free, 15), (.take, 16), (.free, 17), (.step, 18), (.free, 19), (.free, 20), (.free, 21)] _ (by kernel_rfl) (by kernel_rfl) (by kernel_rfl) (by kernel_rfl) (by decide) rfl (fun _ _ _ _ _ h => h) ?_
                  simp only [List.filterMap_cons, List.filterMap_nil, List.getElem?_toArray, List.getElem?_cons_zero, List.getElem?_cons_succ, Option.map_some]
                  iterate 4
                    first
                      | (refine mv_free ?_ (Or.inl ⟨by rfl, ?_⟩) (⟨m1, m2⟩) ?_
                         rotate_left 1
                         · intro u
                           go_simp
                           try simp only [d1]
                           try simp only [d2]
                           try simp only [d3]
                           try simp only [d1]
                           try simp only [d2]
                           try simp only [d3]
                           try with_reducible rfl
                         simp only [Act.put, List.setIfInBounds_toArray, List.set_cons_zero, List.set_cons_succ])
                      | (refine mv_free _ (Or.inr ⟨by rfl, rfl⟩) (⟨m1, m2⟩) ?_
                         simp only [Act.put, List.setIfInBounds_toArray, List.set_cons_zero, List.set_cons_succ])
                  iterate 1
                    first
                      | (refine mv_take ?_ (Or.inl ⟨by rfl, ?_⟩) (⟨m1, m2⟩) ?_
                         rotate_left 1
                         · intro u hu
                           (try dsimp only at hu)
                           go_simp
                           try with_reducible rfl
                         simp only [Act.put, List.setIfInBounds_toArray, List.set_cons_zero, List.set_cons_succ])
                      | (refine mv_take _ (Or.inr ⟨by rfl, rfl⟩) (⟨m1, m2⟩) ?_
                         simp only [Act.put, List.setIfInBounds_toArray, List.set_cons_zero, List.set_cons_succ])
                  iterate 3
                    first
                      | (refine mv_free ?_ (Or.inl ⟨by rfl, ?_⟩) (⟨m1, m2⟩) ?_
                         rotate_left 1
                         · intro u
                           go_simp
                           try simp only [d1]
                           try simp only [d2]
                           try simp only [d3]
                           try simp only [d1]
                           try simp only [d2]
                           try simp only [d3]
                           try with_reducible rfl
                         simp only [Act.put, List.setIfInBounds_toArray, List.set_cons_zero, List.set_cons_succ])
                      | (refine mv_free _ (Or.inr ⟨by rfl, rfl⟩) (⟨m1, m2⟩) ?_
                         simp only [Act.put, List.setIfInBounds_toArray, List.set_cons_zero, List.set_cons_succ])
                  iterate 1
                    first
                      | (refine mv_take ?_ (Or.inl ⟨by rfl, ?_⟩) (⟨m1, m2⟩) ?_
                         rotate_left 1
                         · intro u hu
                           (try dsimp only at hu)
                           go_simp
                           try with_reducible rfl
                         simp only [Act.put, List.setIfInBounds_toArray, List.set_cons_zero, List.set_cons_succ])
                      | (refine mv_take _ (Or.inr ⟨by rfl, rfl⟩) (⟨m1, m2⟩) ?_
                         simp only [Act.put, List.setIfInBounds_toArray, List.set_cons_zero, List.set_cons_succ])
                  iterate 7
                    first
                      | (refine mv_free ?_ (Or.inl ⟨by rfl, ?_⟩) (⟨m1, m2⟩) ?_
                         rotate_left 1
                         · intro u
                           go_simp
                           try simp only [d1]
                           try simp only [d2]
                           try simp only [d3]
                           try simp only [d1]
                           try simp only [d2]
                           try simp only [d3]
                           try with_reducible rfl
                         simp only [Act.put, List.setIfInBounds_toArray, List.set_cons_zero, List.set_cons_succ])
                      | (refine mv_free _ (Or.inr ⟨by rfl, rfl⟩) (⟨m1, m2⟩) ?_
                         simp only [Act.put, List.setIfInBounds_toArray, List.set_cons_zero, List.set_cons_succ])
                  iterate 1
                    first
                      | (refine mv_take ?_ (Or.inl ⟨by rfl, ?_⟩) (⟨m1, m2⟩) ?_
                         rotate_left 1
                         · intro u hu
                           (try dsimp only at hu)
                           go_simp
                           try with_reducible rfl
                         simp only [Act.put, List.setIfInBounds_toArray, List.set_cons_zero, List.set_cons_succ])
                      | (refine mv_take _ (Or.inr ⟨by rfl, rfl⟩) (⟨m1, m2⟩) ?_
                         simp only [Act.put, List.setIfInBounds_toArray, List.set_cons_zero, List.set_cons_succ])
                  iterate 1
                    first
                      | (refine mv_free ?_ (Or.inl ⟨by rfl, ?_⟩) (⟨m1, m2⟩) ?_
                         rotate_left 1
                         · intro u
                           go_simp
                           try simp only [d1]
                           try simp only [d2]
                           try simp only [d3]
                           try simp only [d1]
                           try simp only [d2]
                           try simp only [d3]
                           try with_reducible rfl
                         simp only [Act.put, List.setIfInBounds_toArray, List.set_cons_zero, List.set_cons_succ])
                      | (refine mv_free _ (Or.inr ⟨by rfl, rfl⟩) (⟨m1, m2⟩) ?_
                         simp only [Act.put, List.setIfInBounds_toArray, List.set_cons_zero, List.set_cons_succ])
                  refine mv_step (fun K hK => ?_)
                  go_simp
                  refine (ON.out _).mono ?_
                  rintro e w3 ⟨rfl, rfl⟩
                  go_wp2_with fail
                  refine hK.out _ _ _ (fun u hu => hu) (⟨m1, m2⟩) ?_
                  clear hK K
                  iterate 3
                    first
                      | (refine mv_free ?_ (Or.inl ⟨by rfl, ?_⟩) (⟨m1, m2⟩) ?_
                         rotate_left 1
                         · intro u
                           go_simp
                           try simp only [d1]
                           try simp only [d2]
                           try simp only [d3]
                           try simp only [d1]
                           try simp only [d2]
                           try simp only [d3]
                           try with_reducible rfl
                         simp only [Act.put, List.setIfInBounds_toArray, List.set_cons_zero, List.set_cons_succ])
                      | (refine mv_free _ (Or.inr ⟨by rfl, rfl⟩) (⟨m1, m2⟩) ?_
                         simp only [Act.put, List.setIfInBounds_toArray, List.set_cons_zero, List.set_cons_succ])
                  refine mv_done ?_
                  cases o
                  · have e1 := Lib.hid (ltW_no (j := r) x s.W (fun (h : N r = x % 256 ∧ odB x = true) => by rw [eoB] at h; cases h.2))
                    have e2 := Lib.hid (ltW_no (j := r) ((k : Int) + 1) s.T (fun (h : N r = x % 256 ∧ odB x = true) => by rw [eoB] at h; cases h.2))
                    have BS2 := Lib.hid (show ltB N x (r + 1) = ltB N x r by rw [BS.out, eoB]; simp)
                    go_wp2
                    go_roundw
                    case rel => exact ⟨r + 1, by omega, by rw [BS2.out], by first | rfl | go_num, by rw [e1.out, e2.out]; exact hBd⟩
                    case measure => simp [intOf]; omega
                  · have e1 := Lib.hid (ltW_yes (j := r) x s.W z eoB)
                    have e2 := Lib.hid (ltW_yes (j := r) ((k : Int) + 1) s.T z eoB)
                    have BS2 := Lib.hid (show ltB N x (r + 1) = true by rw [BS.out, eoB, zb]; simp)
                    have m3 := XC.out _ hBd.out.b
                    clear m1 m2 hB
                    generalize v.drew = X at *
                    have g1c := hBd.out.r1.cell hrn
                    have g1f := hBd.out.r1.frozen r
                    have g2c := hBd.out.r2.cell hrn
                    have g2f := hBd.out.r2.frozen r
                    have r2' := hBd.out.r2.setOther (a := ⟨g1, r, none⟩) (Ne.symm hBd.out.ne) (.int .u32 x)
                    have g2c' := r2'.cell hrn
                    have g2f' := r2'.frozen r
                    clear r2'
                    have BP := Lib.hid (hBd.out.put r x ((k : Int) + 1))
                    clear hBd
                    go_wp2
                    go_roundw
                    case rel => exact ⟨r + 1, by omega, by rw [BS2.out], by first | rfl | go_num, by rw [e1.out, e2.out]; exact BP⟩
                    case measure => simp [intOf]; omega
                · have zb : (N r == x % 256) = false := beq_eq_false_iff_ne.2 z
                  clear OB
                  go_upto_region 21 with (fail)
                  refine region_moves (fun u => u.cell? ⟨b, off + r * 3, none⟩ = some (.int .i64 (N r)) ∧ u.cell? ⟨rb, ro + m, none⟩ = some (.int .u32 x)) [] [(.free, 0), (.free, 1), (.free, 2), (.free, 3), (.take, 4), (.free, 5), (.free, 6), (.free, 7), (.take, 8), (.free, 9), (.free, 10), (.free, 11), (.free, 12), (.free, 13), (.free, 14), (.free, 15), (.take, 16), (.free, 17), (.step, 18), (.free, 19), (.free, 20), (.free, 21)] _ (by kernel_rfl) (by kernel_rfl) (by kernel_rfl) (by kernel_rfl) (by decide) rfl (fun _ _ _ _ _ h => h) ?_
                  simp only [List.filterMap_cons, List.filterMap_nil, List.getElem?_toArray, List.getElem?_cons_zero, List.getElem?_cons_succ, Option.map_some]
                  iterate 4
                    first
                      | (refine mv_free ?_ (Or.inl ⟨by rfl, ?_⟩) (⟨m1, m2⟩) ?_
                         rotate_left 1
                         · intro u
                           go_simp
                           try simp only [d1]
                           try simp only [d2]
                           try simp only [d3]
                           try simp only [d1]
                           try simp only [d2]
                           try simp only [d3]
                           try with_reducible rfl
                         simp only [Act.put, List.setIfInBounds_toArray, List.set_cons_zero, List.set_cons_succ])
                      | (refine mv_free _ (Or.inr ⟨by rfl, rfl⟩) (⟨m1, m2⟩) ?_
                         simp only [Act.put, List.setIfInBounds_toArray, List.set_cons_zero, List.set_cons_succ])
                  iterate 1
                    first
                      | (refine mv_take ?_ (Or.inl ⟨by rfl, ?_⟩) (⟨m1, m2⟩) ?_
                         rotate_left 1
                         · intro u hu
                           (try dsimp only at hu)
                           go_simp
                           try with_reducible rfl
                         simp only [Act.put, List.setIfInBounds_toArray, List.set_cons_zero, List.set_cons_succ])
                      | (refine mv_take _ (Or.inr ⟨by rfl, rfl⟩) (⟨m1, m2⟩) ?_
                         simp only [Act.put, List.setIfInBounds_toArray, List.set_cons_zero, List.set_cons_succ])
                  iterate 3
                    first
                      | (refine mv_free ?_ (Or.inl ⟨by rfl, ?_⟩) (⟨m1, m2⟩) ?_
                         rotate_left 1
                         · intro u
                           go_simp
                           try simp only [d1]
                           try simp only [d2]
                           try simp only [d3]
                           try simp only [d1]
                           try simp only [d2]
                           try simp only [d3]
                           try with_reducible rfl
                         simp only [Act.put, List.setIfInBounds_toArray, List.set_cons_zero, List.set_cons_succ])
                      | (refine mv_free _ (Or.inr ⟨by rfl, rfl⟩) (⟨m1, m2⟩) ?_
                         simp only [Act.put, List.setIfInBounds_toArray, List.set_cons_zero, List.set_cons_succ])
                  iterate 1
                    first
                      | (refine mv_take ?_ (Or.inl ⟨by rfl, ?_⟩) (⟨m1, m2⟩) ?_
                         rotate_left 1
                         · intro u hu
                           (try dsimp only at hu)
                           go_simp
                           try with_reducible rfl
                         simp only [Act.put, List.setIfInBounds_toArray, List.set_cons_zero, List.set_cons_succ])
                      | (refine mv_take _ (Or.inr ⟨by rfl, rfl⟩) (⟨m1, m2⟩) ?_
                         simp only [Act.put, List.setIfInBounds_toArray, List.set_cons_zero, List.set_cons_succ])
                  iterate 7
                    first
                      | (refine mv_free ?_ (Or.inl ⟨by rfl, ?_⟩) (⟨m1, m2⟩) ?_
                         rotate_left 1
                         · intro u
                           go_simp
                           try simp only [d1]
                           try simp only [d2]
                           try simp only [d3]
                           try simp only [d1]
                           try simp only [d2]
                           try simp only [d3]
                           try with_reducible rfl
                         simp only [Act.put, List.setIfInBounds_toArray, List.set_cons_zero, List.set_cons_succ])
                      | (refine mv_free _ (Or.inr ⟨by rfl, rfl⟩) (⟨m1, m2⟩) ?_
                         simp only [Act.put, List.setIfInBounds_toArray, List.set_cons_zero, List.set_cons_succ])
                  iterate 1
                    first
                      | (refine mv_take ?_ (Or.inl ⟨by rfl, ?_⟩) (⟨m1, m2⟩) ?_
                         rotate_left 1
                         · intro u hu
                           (try dsimp only at hu)
                           go_simp
                           try with_reducible rfl
                         simp only [Act.put, List.setIfInBounds_toArray, List.set_cons_zero, List.set_cons_succ])
                      | (refine mv_take _ (Or.inr ⟨by rfl, rfl⟩) (⟨m1, m2⟩) ?_
                         simp only [Act.put, List.setIfInBounds_toArray, List.set_cons_zero, List.set_cons_succ])
                  iterate 1
                    first
                      | (refine mv_free ?_ (Or.inl ⟨by rfl, ?_⟩) (⟨m1, m2⟩) ?_
                         rotate_left 1
                         · intro u
                           go_simp
                           try simp only [d1]
                           try simp only [d2]
                           try simp only [d3]
                           try simp only [d1]
                           try simp only [d2]
                           try simp only [d3]
                           try with_reducible rfl
                         simp only [Act.put, List.setIfInBounds_toArray, List.set_cons_zero, List.set_cons_succ])
                      | (refine mv_free _ (Or.inr ⟨by rfl, rfl⟩) (⟨m1, m2⟩) ?_
                         simp only [Act.put, List.setIfInBounds_toArray, List.set_cons_zero, List.set_cons_succ])
                  refine mv_step (fun K hK => ?_)
                  go_simp
                  refine hK.out _ _ _ (fun u hu => hu) (⟨m1, m2⟩) ?_
                  clear hK K
                  iterate 3
                    first
                      | (refine mv_free ?_ (Or.inl ⟨by rfl, ?_⟩) (⟨m1, m2⟩) ?_
                         rotate_left 1
                         · intro u
                           go_simp
                           try simp only [d1]
                           try simp only [d2]
                           try simp only [d3]
                           try simp only [d1]
                           try simp only [d2]
                           try simp only [d3]
                           try with_reducible rfl
                         simp only [Act.put, List.setIfInBounds_toArray, List.set_cons_zero, List.set_cons_succ])
                      | (refine mv_free _ (Or.inr ⟨by rfl, rfl⟩) (⟨m1, m2⟩) ?_
                         simp only [Act.put, List.setIfInBounds_toArray, List.set_cons_zero, List.set_cons_succ])
                  refine mv_done ?_
                  have e1 := Lib.hid (ltW_no (j := r) x s.W (fun (h : N r = x % 256 ∧ odB x = true) => z h.1))
                  have e2 := Lib.hid (ltW_no (j := r) ((k : Int) + 1) s.T (fun (h : N r = x % 256 ∧ odB x = true) => z h.1))
                  have BS2 := Lib.hid (show ltB N x (r + 1) = ltB N x r by rw [BS.out, zb]; simp)
                  go_wp2
                  go_roundw
                  case rel => exact ⟨r + 1, by omega, by rw [BS2.out], by first | rfl | go_num, by rw [e1.out, e2.out]; exact hBd⟩
                  case measure => simp [intOf]; omega
              · obtain rfl : r = n := by omega
                have i1 : ¬ (r : Int) < (r : Int) := by omega
                obtain ⟨fd, efd⟩ : ∃ fd, ltB N x r = fd := ⟨_, rfl⟩
                rw [efd] at f3 ⊢
                clear efd OB
                have hB2 := Lib.hid (show BwS g1 g2 p q g tc r N P F pa k (S k).W (S k).K (S k).T (FS (m + 1)).W (FS (m + 1)).T w v from hB.out.same f1.out.symm f2.out.symm)
                clear hB
                cases fd
                · have f4 := Lib.hid (show (FS (m + 1)).m = s.m + 1 from f3.out)
                  go_wp2
                  go_roundw
                  case rel => exact ⟨m + 1, by omega, by first | (rw [f4.out]; done) | (rw [f4.out]; rfl) | (rw [f4.out]; simp), by first | rfl | go_num, hB2⟩
                  case measure => simp [intOf]; omega
                · have f4 := Lib.hid (show (FS (m + 1)).m = s.m from f3.out)
                  go_wp2
                  go_roundw
                  case rel => exact ⟨m + 1, by omega, by first | (rw [f4.out]; done) | (rw [f4.out]; rfl) | (rw [f4.out]; simp), by first | rfl | go_num, hB2⟩
                  case measure => simp [intOf]; omega
          · obtain rfl : m = ls := by omega
            have j6 : ¬ (m : Int) < (m : Int) := by omega
            rw [FE.out] at hB ⊢
            have ST := wstep (A k) (C k) L v hB.out.x hn2 (by omega) (RR.out v hB.out.b) (fun h1 b hb => by have := RB.out h1 b hb; have := hB.out.lo; omega) (by rw [ELS.out]; omega) RV.out
            have em : min ((k : Int) + 1) 1000000 = (k : Int) + 1 := by omega
            rw [em, ← SN.out, ELS.out] at ST
            replace ST := Lib.hid ST
            have SP := SK2.out
            have ec : (((k + 1 : Nat)) : Int) = (k : Int) + 1 := by omega
            rw [ec] at SP
            clear SN SK2 SK FE FN FM F0 M1 em
            obtain ⟨Y, eY⟩ : ∃ Y, S (k + 1) = Y := ⟨_, rfl⟩
            have EY := Lib.hid eY
            rw [eY] at hB ST SP ⊢
            clear eY
            have SPh := Lib.hid SP
            clear SP
            have r1 : ((Y.m : Int) != (Y.m : Int)) = false := by simp
            have r2 : (((k : Int) + 1) != ((k : Int) + 1)) = false := by simp
            have r3 : ((Y.m : Int) == (Y.m : Int)) = true := by simp
            have r4 : (((k : Int) + 1) == ((k : Int) + 1)) = true := by simp
            go_wp2_with fail
            refine ST.out.mono ?_
            rintro e w3 ⟨rfl, hx3, h3⟩
            have B3 := Lib.hid (hB.out.step hx3 h3)
            clear hB ST hx3 h3
            have TK := Lib.hid (wtick w3 B3.out.x)
            have MS := Lib.hid (wmiss w3 B3.out.x hn2 PA.out (by omega) HS.out (fun i _ => SPh.out.2 i))
            go_wp2_with fail
            refine TK.out.mono ?_
            rintro e w4 ⟨rfl, rfl⟩
            clear TK
            go_wp2_with fail
            refine MS.out.mono ?_
            rintro e w4 ⟨xm, rfl, hO, hb⟩
            have B4 := Lib.hid (B3.out.next hb)
            have hO := Lib.hid hO
            have lo4 := Lib.hid B3.out.b.size
            clear hb MS B3 r1 r2 r3 r4
            obtain ⟨am, cm, exm, hcm, -, -⟩ := hO.out.row
            rw [nvals_len] at exm
            subst exm
            have ML := msL_len N P pa ((k : Int) + 1) Y.T n
            obtain ⟨D, eD⟩ : ∃ D, msL N P pa ((k : Int) + 1) Y.T n = D := ⟨_, rfl⟩
            rw [eD] at hO ML ⊢
            replace eD := Lib.hid eD
            obtain ⟨dl, edl⟩ : ∃ z, D.length = z := ⟨_, rfl⟩
            have EDL := Lib.hid edl
            rw [edl] at ML ⊢
            rw [edl] at hO
            clear edl hcm
            go_wp2_with fail
            go_loopw [18, 19] (fun c j u => ∃ r : Nat, r ≤ n ∧ c = .int .i64 ((msL N P pa ((k : Int) + 1) Y.T r).length : Nat) ∧ j = .int .i64 (r : Int) ∧ Hid (BwS g1 g2 p q g tc n N P F pa ((k : Int) + 1) Y.W Y.K Y.T Y.W Y.T w u) ∧ Hid (Og 3 w3.heap.size (.slice am dl cm) (nvals .i64 D) u)) (fun _ j _ => n - (intOf j).toNat)
            case atStart => exact ⟨0, by omega, rfl, rfl, B4, hO⟩
            case round =>
              clear B4 hO
              obtain ⟨r, hr, rfl, rfl, hB, hO⟩ := hrel
              generalize wr = v at *
              have MR := msL_len N P pa ((k : Int) + 1) Y.T r
              by_cases hrn : r < n
              · obtain ⟨b2, off2, ea2, -, m1, mp, -⟩ := (HH.out v hB.out.b).at hrn
                injection ea2 with ea2
                injection ea2 with e1 e2
                subst e1 e2
                have i1 : (r : Int) < (n : Int) := by omega
                have i2 : IntKind.i64.wrap ((r : Int) + 1) = (r : Int) + 1 := by rw [IntKind.wrap_i64]; omega
                have i3 : 0 ≤ (r : Int) := by omega
                have c1 := hB.out.r1.cell hrn
                have c2 := hB.out.r2.cell hrn
                have WD := Lib.hid (wword (N r) v hB.out.x hn2)
                have YK := Lib.hid (SPh.out.1 r)
                have YT := SPh.out.2 r
                have hs := of_decide_eq_true (HS.out r hrn)
                have MG := Lib.hid (fun (y : pa * P r ≤ (k : Int) + 1 - Y.T r) => msL_get (N := N) (P := P) (pa := pa) (c := (k : Int) + 1) (T := Y.T) hrn y)
                have MY := Lib.hid (fun (y : pa * P r ≤ (k : Int) + 1 - Y.T r) => show msL N P pa ((k : Int) + 1) Y.T (r + 1) = msL N P pa ((k : Int) + 1) Y.T r ++ [N r] from if_pos y)
                have MN := Lib.hid (fun (y : ¬ pa * P r ≤ (k : Int) + 1 - Y.T r) => show msL N P pa ((k : Int) + 1) Y.T (r + 1) = msL N P pa ((k : Int) + 1) Y.T r from if_neg y)
                have PA2 := PA.out
                have pb : 0 ≤ pa * P r ∧ pa * P r ≤ 10000 := by
                  have e1 := Int.mul_le_mul_of_nonneg_right PA2.2 (show 0 ≤ P r by omega)
                  have e2 := Int.mul_nonneg (show 0 ≤ pa by omega) (show 0 ≤ P r by omega)
                  omega
                have w1 : IntKind.i64.wrap ((k : Int) + 1 - Y.T r) = (k : Int) + 1 - Y.T r := by rw [IntKind.wrap_i64]; omega
                have w2' : IntKind.i64.wrap (pa * P r) = pa * P r := by rw [IntKind.wrap_i64]; omega
                obtain ⟨wd, ewd⟩ : ∃ z, Y.W r = z := ⟨_, rfl⟩
                have EWD := Lib.hid ewd
                rw [ewd] at c1
                clear ewd
                obtain ⟨td, etd⟩ : ∃ z, Y.T r = z := ⟨_, rfl⟩
                have ETD := Lib.hid etd
                rw [etd] at c2 YK MG MY MN YT w1
                clear etd hs pb PA2
                obtain ⟨mr, emr⟩ : ∃ z, (msL N P pa ((k : Int) + 1) Y.T r).length = z := ⟨_, rfl⟩
                have EMR := Lib.hid emr
                rw [emr] at MR MG ⊢
                clear emr
                rw [eD.out] at MG
                have s1 : IntKind.i64.wrap ((mr : Int) + 1) = (mr : Int) + 1 := by rw [IntKind.wrap_i64]; omega
                go_wp2_with fail
                refine WD.out.mono ?_
                rintro e v1 ⟨hb, hw1⟩
                have HK := Lib.hid (show e = .returned (.tuple #[.int .u32 wd, .bool (decide (0 < td))]) by
                  rcases hw1 with ⟨j, hj, h1, -, h3⟩ | ⟨h1, -⟩
                  · have := UQ.out j r hj hrn h1
                    subst this
                    rw [h3, EWD.out, YK.out]
                  · exact absurd rfl (h1 r hrn))
                have hB1 := Lib.hid (hB.out.next hb)
                have hO1 := Lib.hid (hO.out.bel hb)
                have m3 := ((HH.out v1 hB1.out.b).pre (show n ≤ n from Nat.le_refl _))
                clear hw1 hB hO WD m1 mp c1 c2 m3
                have c1 := hB1.out.r1.cell hrn
                have c2 := hB1.out.r2.cell hrn
                rw [EWD.out] at c1
                rw [ETD.out] at c2
                obtain ⟨b2, off2, ea2, -, m1, mp, -⟩ := (HH.out v1 hB1.out.b).at hrn
                injection ea2 with ea2
                injection ea2 with e1 e2
                subst e1 e2
                obtain rfl := HK.out
                clear HK hb
                have u1 : (wd != wd) = false := by simp
                have u2 : (wd == wd) = true := by simp
                obtain ⟨td0, etd0⟩ : ∃ z, decide (0 < td) = z := ⟨_, rfl⟩
                rw [etd0]
                have u3 : (td0 != td0) = false := by simp
                have u4 : (td0 == td0) = true := by simp
                have hB2 := Lib.hid (hB1.out.next (Below.refl _ _).drew)
                have hO2 := Lib.hid hO1.out.drew
                clear hB1 hO1
                go_upto_region 37 with (fail)
                by_cases y : pa * P r ≤ (k : Int) + 1 - td
                · have y0 : ¬ (k : Int) + 1 - td < pa * P r := by omega
                  have y1 : decide ((k : Int) + 1 - td < pa * P r) = false := decide_eq_false y0
                  refine region_moves (fun u => u.cell? ⟨g2, r, none⟩ = some (.int .i64 td) ∧ u.cell? ⟨b, off + r * 3 + 1, none⟩ = some (.int .i64 (P r))) [] [(.free, 0), (.free, 1), (.free, 2), (.free, 3), (.take, 4), (.free, 5), (.free, 6), (.free, 7), (.free, 8), (.free, 9), (.free, 10), (.take, 11), (.free, 12), (.free, 13)] _ (by kernel_rfl) (by kernel_rfl) (by kernel_rfl) (by kernel_rfl) (by decide) rfl (fun _ _ _ _ _ h => h) ?_
                  simp only [List.filterMap_cons, List.filterMap_nil, List.getElem?_toArray, List.getElem?_cons_zero, List.getElem?_cons_succ, Option.map_some]
                  iterate 4
                    first
                      | (refine mv_free ?_ (Or.inl ⟨by rfl, ?_⟩) (⟨c2, mp⟩) ?_
                         rotate_left 1
                         · intro u
                           go_simp
                           try simp only [d1]
                           try simp only [d2]
                           try simp only [d3]
                           try simp only [d1]
                           try simp only [d2]
                           try simp only [d3]
                           try with_reducible rfl
                         simp only [Act.put, List.setIfInBounds_toArray, List.set_cons_zero, List.set_cons_succ])
                      | (refine mv_free _ (Or.inr ⟨by rfl, rfl⟩) (⟨c2, mp⟩) ?_
                         simp only [Act.put, List.setIfInBounds_toArray, List.set_cons_zero, List.set_cons_succ])
                  iterate 1
                    first
                      | (refine mv_take ?_ (Or.inl ⟨by rfl, ?_⟩) (⟨c2, mp⟩) ?_
                         rotate_left 1
                         · intro u hu
                           (try dsimp only at hu)
                           go_simp
                           try with_reducible rfl
                         simp only [Act.put, List.setIfInBounds_toArray, List.set_cons_zero, List.set_cons_succ])
                      | (refine mv_take _ (Or.inr ⟨by rfl, rfl⟩) (⟨c2, mp⟩) ?_
                         simp only [Act.put, List.setIfInBounds_toArray, List.set_cons_zero, List.set_cons_succ])
                  iterate 6
                    first
                      | (refine mv_free ?_ (Or.inl ⟨by rfl, ?_⟩) (⟨c2, mp⟩) ?_
                         rotate_left 1
                         · intro u
                           go_simp
                           try simp only [d1]
                           try simp only [d2]
                           try simp only [d3]
                           try simp only [d1]
                           try simp only [d2]
                           try simp only [d3]
                           try with_reducible rfl
                         simp only [Act.put, List.setIfInBounds_toArray, List.set_cons_zero, List.set_cons_succ])
                      | (refine mv_free _ (Or.inr ⟨by rfl, rfl⟩) (⟨c2, mp⟩) ?_
                         simp only [Act.put, List.setIfInBounds_toArray, List.set_cons_zero, List.set_cons_succ])
                  iterate 1
                    first
                      | (refine mv_take ?_ (Or.inl ⟨by rfl, ?_⟩) (⟨c2, mp⟩) ?_
                         rotate_left 1
                         · intro u hu
                           (try dsimp only at hu)
                           go_simp
                           try with_reducible rfl
                         simp only [Act.put, List.setIfInBounds_toArray, List.set_cons_zero, List.set_cons_succ])
                      | (refine mv_take _ (Or.inr ⟨by rfl, rfl⟩) (⟨c2, mp⟩) ?_
                         simp only [Act.put, List.setIfInBounds_toArray, List.set_cons_zero, List.set_cons_succ])
                  iterate 2
                    first
                      | (refine mv_free ?_ (Or.inl ⟨by rfl, ?_⟩) (⟨c2, mp⟩) ?_
                         rotate_left 1
                         · intro u
                           go_simp
                           try simp only [d1]
                           try simp only [d2]
                           try simp only [d3]
                           try simp only [d1]
                           try simp only [d2]
                           try simp only [d3]
                           try with_reducible rfl
                         simp only [Act.put, List.setIfInBounds_toArray, List.set_cons_zero, List.set_cons_succ])
                      | (refine mv_free _ (Or.inr ⟨by rfl, rfl⟩) (⟨c2, mp⟩) ?_
                         simp only [Act.put, List.setIfInBounds_toArray, List.set_cons_zero, List.set_cons_succ])
                  refine mv_done ?_
                  generalize v1.drew = X at *
                  obtain ⟨G1, G2⟩ := MG.out y
                  have MY := Lib.hid (show (msL N P pa ((k : Int) + 1) Y.T (r + 1)).length = mr + 1 by rw [MY.out y, List.length_append, EMR.out]; rfl)
                  obtain ⟨b3, off3, ea3, -, m5, -, -⟩ := (HH.out X hB2.out.b).at hrn
                  injection ea3 with ea3
                  injection ea3 with e1 e2
                  subst e1 e2
                  obtain ⟨ao, cp, ex, -, hn0, hs0⟩ := hO2.out.row
                  injection ex with ex1 ex2 ex3
                  subst ex1
                  have hne : D ≠ [] := fun e => by rw [e] at G2; simp at G2
                  cases am with
                  | none => exact absurd (by have := (hn0 rfl).1; simpa [nvals] using this) hne
                  | some ad =>
                    obtain ⟨mb, mo, sp⟩ := ad
                    obtain ⟨s1', -, -, s4⟩ := hs0 _ rfl
                    have s1' : sp = none := s1'
                    subst s1'
                    have ck := s4 mr (.int .i64 (N r)) (by simp [nvals, G1])
                    have ck : X.cell? ⟨mb, mo + mr, none⟩ = some (.int .i64 (N r)) := ck
                    rw [EDL.out] at G2
                    have r1 : (mr : Int) < (dl : Int) := by omega
                    have r2 : ¬ (dl : Int) ≤ (mr : Int) := by omega
                    have r3 : decide ((dl : Int) ≤ (mr : Int)) = false := decide_eq_false r2
                    have r4 : 0 ≤ (mr : Int) := by omega
                    have r7 : (N r != N r) = false := by simp
                    have r8 : (N r == N r) = true := by simp
                    have hB3 := Lib.hid (hB2.out.next (Below.refl _ _).drew)
                    have hO3 := Lib.hid hO2.out.drew
                    clear hs0 s4 hn0 G1 hne ex2 ex3 c1 c2 mp m1 y0 y1 hB2 hO2 MG MN
                    go_upto_region 38 with (fail)
                    refine region_moves (fun u => u.cell? ⟨mb, mo + mr, none⟩ = some (.int .i64 (N r)) ∧ u.cell? ⟨b, off + r * 3, none⟩ = some (.int .i64 (N r))) [] [(.free, 0), (.free, 1), (.free, 2), (.free, 3), (.free, 4), (.free, 5), (.free, 6), (.free, 7), (.take, 8), (.free, 9), (.free, 10), (.free, 11), (.free, 12), (.take, 13), (.free, 14), (.free, 15)] _ (by kernel_rfl) (by kernel_rfl) (by kernel_rfl) (by kernel_rfl) (by decide) rfl (fun _ _ _ _ _ h => h) ?_
                    simp only [List.filterMap_cons, List.filterMap_nil, List.getElem?_toArray, List.getElem?_cons_zero, List.getElem?_cons_succ, Option.map_some]
                    iterate 8
                      first
                        | (refine mv_free ?_ (Or.inl ⟨by rfl, ?_⟩) (⟨ck, m5⟩) ?_
                           rotate_left 1
                           · intro u
                             go_simp
                             try simp only [d1]
                             try simp only [d2]
                             try simp only [d3]
                             try simp only [d1]
                             try simp only [d2]
                             try simp only [d3]
                             try with_reducible rfl
                           simp only [Act.put, List.setIfInBounds_toArray, List.set_cons_zero, List.set_cons_succ])
                        | (refine mv_free _ (Or.inr ⟨by rfl, rfl⟩) (⟨ck, m5⟩) ?_
                           simp only [Act.put, List.setIfInBounds_toArray, List.set_cons_zero, List.set_cons_succ])
                    iterate 1
                      first
                        | (refine mv_take ?_ (Or.inl ⟨by rfl, ?_⟩) (⟨ck, m5⟩) ?_
                           rotate_left 1
                           · intro u hu
                             (try dsimp only at hu)
                             go_simp
                             try with_reducible rfl
                           simp only [Act.put, List.setIfInBounds_toArray, List.set_cons_zero, List.set_cons_succ])
                        | (refine mv_take _ (Or.inr ⟨by rfl, rfl⟩) (⟨ck, m5⟩) ?_
                           simp only [Act.put, List.setIfInBounds_toArray, List.set_cons_zero, List.set_cons_succ])
                    iterate 4
                      first
                        | (refine mv_free ?_ (Or.inl ⟨by rfl, ?_⟩) (⟨ck, m5⟩) ?_
                           rotate_left 1
                           · intro u
                             go_simp
                             try simp only [d1]
                             try simp only [d2]
                             try simp only [d3]
                             try simp only [d1]
                             try simp only [d2]
                             try simp only [d3]
                             try with_reducible rfl
                           simp only [Act.put, List.setIfInBounds_toArray, List.set_cons_zero, List.set_cons_succ])
                        | (refine mv_free _ (Or.inr ⟨by rfl, rfl⟩) (⟨ck, m5⟩) ?_
                           simp only [Act.put, List.setIfInBounds_toArray, List.set_cons_zero, List.set_cons_succ])
                    iterate 1
                      first
                        | (refine mv_take ?_ (Or.inl ⟨by rfl, ?_⟩) (⟨ck, m5⟩) ?_
                           rotate_left 1
                           · intro u hu
                             (try dsimp only at hu)
                             go_simp
                             try with_reducible rfl
                           simp only [Act.put, List.setIfInBounds_toArray, List.set_cons_zero, List.set_cons_succ])
                        | (refine mv_take _ (Or.inr ⟨by rfl, rfl⟩) (⟨ck, m5⟩) ?_
                           simp only [Act.put, List.setIfInBounds_toArray, List.set_cons_zero, List.set_cons_succ])
                    iterate 2
                      first
                        | (refine mv_free ?_ (Or.inl ⟨by rfl, ?_⟩) (⟨ck, m5⟩) ?_
                           rotate_left 1
                           · intro u
                             go_simp
                             try simp only [d1]
                             try simp only [d2]
                             try simp only [d3]
                             try simp only [d1]
                             try simp only [d2]
                             try simp only [d3]
                             try with_reducible rfl
                           simp only [Act.put, List.setIfInBounds_toArray, List.set_cons_zero, List.set_cons_succ])
                        | (refine mv_free _ (Or.inr ⟨by rfl, rfl⟩) (⟨ck, m5⟩) ?_
                           simp only [Act.put, List.setIfInBounds_toArray, List.set_cons_zero, List.set_cons_succ])
                    refine mv_done ?_
                    go_wp2
                    go_roundw
                    case rel => exact ⟨r + 1, by omega, by rw [MY.out]; first | rfl | go_num, by first | rfl | go_num, hB3, hO3⟩
                    case measure => simp [intOf]; omega
                · have y0 : (k : Int) + 1 - td < pa * P r := by omega
                  have y1 : decide ((k : Int) + 1 - td < pa * P r) = true := decide_eq_true y0
                  refine region_moves (fun u => u.cell? ⟨g2, r, none⟩ = some (.int .i64 td) ∧ u.cell? ⟨b, off + r * 3 + 1, none⟩ = some (.int .i64 (P r))) [] [(.free, 0), (.free, 1), (.free, 2), (.free, 3), (.take, 4), (.free, 5), (.free, 6), (.free, 7), (.free, 8), (.free, 9), (.free, 10), (.take, 11), (.free, 12), (.free, 13)] _ (by kernel_rfl) (by kernel_rfl) (by kernel_rfl) (by kernel_rfl) (by decide) rfl (fun _ _ _ _ _ h => h) ?_
                  simp only [List.filterMap_cons, List.filterMap_nil, List.getElem?_toArray, List.getElem?_cons_zero, List.getElem?_cons_succ, Option.map_some]
                  iterate 4
                    first
                      | (refine mv_free ?_ (Or.inl ⟨by rfl, ?_⟩) (⟨c2, mp⟩) ?_
                         rotate_left 1
                         · intro u
                           go_simp
                           try simp only [d1]
                           try simp only [d2]
                           try simp only [d3]
                           try simp only [d1]
                           try simp only [d2]
                           try simp only [d3]
                           try with_reducible rfl
                         simp only [Act.put, List.setIfInBounds_toArray, List.set_cons_zero, List.set_cons_succ])
                      | (refine mv_free _ (Or.inr ⟨by rfl, rfl⟩) (⟨c2, mp⟩) ?_
                         simp only [Act.put, List.setIfInBounds_toArray, List.set_cons_zero, List.set_cons_succ])
                  iterate 1
                    first
                      | (refine mv_take ?_ (Or.inl ⟨by rfl, ?_⟩) (⟨c2, mp⟩) ?_
                         rotate_left 1
                         · intro u hu
                           (try dsimp only at hu)
                           go_simp
                           try with_reducible rfl
                         simp only [Act.put, List.setIfInBounds_toArray, List.set_cons_zero, List.set_cons_succ])
                      | (refine mv_take _ (Or.inr ⟨by rfl, rfl⟩) (⟨c2, mp⟩) ?_
                         simp only [Act.put, List.setIfInBounds_toArray, List.set_cons_zero, List.set_cons_succ])
                  iterate 6
                    first
                      | (refine mv_free ?_ (Or.inl ⟨by rfl, ?_⟩) (⟨c2, mp⟩) ?_
                         rotate_left 1
                         · intro u
                           go_simp
                           try simp only [d1]
                           try simp only [d2]
                           try simp only [d3]
                           try simp only [d1]
                           try simp only [d2]
                           try simp only [d3]
                           try with_reducible rfl
                         simp only [Act.put, List.setIfInBounds_toArray, List.set_cons_zero, List.set_cons_succ])
                      | (refine mv_free _ (Or.inr ⟨by rfl, rfl⟩) (⟨c2, mp⟩) ?_
                         simp only [Act.put, List.setIfInBounds_toArray, List.set_cons_zero, List.set_cons_succ])
                  iterate 1
                    first
                      | (refine mv_take ?_ (Or.inl ⟨by rfl, ?_⟩) (⟨c2, mp⟩) ?_
                         rotate_left 1
                         · intro u hu
                           (try dsimp only at hu)
                           go_simp
                           try with_reducible rfl
                         simp only [Act.put, List.setIfInBounds_toArray, List.set_cons_zero, List.set_cons_succ])
                      | (refine mv_take _ (Or.inr ⟨by rfl, rfl⟩) (⟨c2, mp⟩) ?_
                         simp only [Act.put, List.setIfInBounds_toArray, List.set_cons_zero, List.set_cons_succ])
                  iterate 2
                    first
                      | (refine mv_free ?_ (Or.inl ⟨by rfl, ?_⟩) (⟨c2, mp⟩) ?_
                         rotate_left 1
                         · intro u
                           go_simp
                           try simp only [d1]
                           try simp only [d2]
                           try simp only [d3]
                           try simp only [d1]
                           try simp only [d2]
                           try simp only [d3]
                           try with_reducible rfl
                         simp only [Act.put, List.setIfInBounds_toArray, List.set_cons_zero, List.set_cons_succ])
                      | (refine mv_free _ (Or.inr ⟨by rfl, rfl⟩) (⟨c2, mp⟩) ?_
                         simp only [Act.put, List.setIfInBounds_toArray, List.set_cons_zero, List.set_cons_succ])
                  refine mv_done ?_
                  generalize v1.drew = X at *
                  have MN := Lib.hid (show (msL N P pa ((k : Int) + 1) Y.T (r + 1)).length = mr by rw [MN.out (by omega), EMR.out])
                  clear c1 c2 mp m1 y0 y1 MG
                  go_wp2
                  go_roundw
                  case rel => exact ⟨r + 1, by omega, by rw [MN.out], by first | rfl | go_num, hB2, hO2⟩
                  case measure => simp [intOf]; omega
              · obtain rfl : r = n := by omega
                have i1 : ¬ (r : Int) < (r : Int) := by omega
                rw [eD.out, EDL.out]
                have r8 : ((dl : Int) != (dl : Int)) = false := by simp
                have r9 : ((dl : Int) == (dl : Int)) = true := by simp
                have hB2 := Lib.hid (show BwS g1 g2 p q g tc r N P F pa ((k + 1 : Nat) : Int) (S (k + 1)).W (S (k + 1)).K (S (k + 1)).T (S (k + 1)).W (S (k + 1)).T w v by rw [EY.out, ec]; exact hB.out)
                clear hB hO
                go_wp2
                go_roundw
                case rel => exact ⟨k + 1, by omega, by rw [ec], hB2⟩
                case measure => simp [intOf]; omega
      · obtain rfl : k = l := by omega
        have j1 : ¬ (k : Int) + 1 ≤ (k : Int) := by omega
        have hb3 := Lib.hid (hB.out.b)
        go_wp2_with fail
        refine (LV.out _).mono ?_
        rintro e u9 ⟨rfl, hb9⟩
        have hb8 := Lib.hid (show Below w.heap.size w u9 from hb3.out.trans (hb9.mono hb3.out.size))
        clear hb9
        go_wp2
        go_ret
        exact ⟨rfl, hb8.out⟩
end Go.Proofs.Ytcpmdgbogdikiaa
