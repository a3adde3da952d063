/- The law WindStays; walked. -/
import Derived.Test.YtiibgblpbjdpaaaWind4
import Derived.Deep.Cut
namespace Go.Proofs.Ytiibgblpbjdpaaa
open Go.ChangeShapes Go.WideShapes Go.ChangeAt Go.RowKit
set_option linter.unusedVariables false
set_option linter.unusedSimpArgs false
theorem tdO_low (v : Int) : v * v ≤ tdO v * tdO v * 1152921504606846976 + 2147483648 * absI v := by
  have k : ∀ u : Int, 0 ≤ u → u * u ≤ (u / 1073741824) * (u / 1073741824) * 1152921504606846976 + 2147483648 * u := fun u hu => by
    obtain ⟨P, hP⟩ : ∃ P, P = u / 1073741824 := ⟨_, rfl⟩
    rw [← hP]
    have h1 : P * 1073741824 ≤ u := by omega
    have h2 : u < P * 1073741824 + 1073741824 := by omega
    obtain ⟨d, hd⟩ : ∃ d, d = u - P * 1073741824 := ⟨_, rfl⟩
    have m : d * (u + P * 1073741824) ≤ 1073741824 * (u + P * 1073741824) := Int.mul_le_mul_of_nonneg_right (by omega) (by omega)
    have e : u * u = P * P * 1152921504606846976 + d * (u + P * 1073741824) := by rw [hd]; grind
    omega
  rcases Int.le_total 0 v with h | h
  · have := k v h
    rw [tdO_pos h]
    have e : absI v = v := by unfold absI; omega
    rw [e]; exact this
  · obtain ⟨u, rfl⟩ : ∃ u, v = -u := ⟨-v, by omega⟩
    have := k u (by omega)
    rw [tdO_neg, tdO_pos (by omega), Int.neg_mul_neg, Int.neg_mul_neg]
    have e : absI (-u) = u := by unfold absI; omega
    rw [e]; exact this
theorem abs_sum {x y : Int} (h : x * x + y * y ≤ 1152921504606846976) : 0 ≤ absI x + absI y ∧ absI x + absI y ≤ 1518500250 := by
  have e : (absI x + absI y) * (absI x + absI y) + (absI x - absI y) * (absI x - absI y) = 2 * (x * x + y * y) := by
    have a : absI x * absI x = x * x := by unfold absI; split <;> grind
    have b : absI y * absI y = y * y := by unfold absI; split <;> grind
    grind
  have p := tsq_nn (absI x - absI y)
  have q := tsq_bd (x := absI x + absI y) (M := 2305843009213693952) 1518500250 (by omega) (by omega) (by decide)
  refine ⟨?_, q.2⟩
  unfold absI
  omega
theorem air_near {x y T : Int} (h0 : 0 ≤ T) (h1 : T ≤ 1000000) (s1 : 1152921504606846976 ≤ x * x + y * y + 1098437885952) (s2 : x * x + y * y ≤ 1152921504606846976) :
    0 ≤ rt (tdO (x * T) * tdO (x * T) + tdO (y * T) * tdO (y * T)) ∧ rt (tdO (x * T) * tdO (x * T) + tdO (y * T) * tdO (y * T)) ≤ T ∧ T ≤ rt (tdO (x * T) * tdO (x * T) + tdO (y * T) * tdO (y * T)) + 4 := by
  have a1 := tdO_sq (x * T)
  have a2 := tdO_sq (y * T)
  have b1 := tdO_low (x * T)
  have b2 := tdO_low (y * T)
  have n1 := tsq_nn (tdO (x * T))
  have n2 := tsq_nn (tdO (y * T))
  have sm := abs_sum s2
  have c1 : absI (x * T) = absI x * T := by
    rcases Int.lt_or_le x 0 with q | q
    · have := Int.mul_nonneg (show 0 ≤ -x by omega) h0
      rw [Int.neg_mul] at this
      have e1 : absI x = -x := by unfold absI; omega
      have e2 : absI (x * T) = -(x * T) := by unfold absI; omega
      rw [e1, e2, Int.neg_mul]
    · have := Int.mul_nonneg q h0
      have e1 : absI x = x := by unfold absI; omega
      have e2 : absI (x * T) = x * T := by unfold absI; omega
      rw [e1, e2]
  have c2 : absI (y * T) = absI y * T := by
    rcases Int.lt_or_le y 0 with q | q
    · have := Int.mul_nonneg (show 0 ≤ -y by omega) h0
      rw [Int.neg_mul] at this
      have e1 : absI y = -y := by unfold absI; omega
      have e2 : absI (y * T) = -(y * T) := by unfold absI; omega
      rw [e1, e2, Int.neg_mul]
    · have := Int.mul_nonneg q h0
      have e1 : absI y = y := by unfold absI; omega
      have e2 : absI (y * T) = y * T := by unfold absI; omega
      rw [e1, e2]
  rw [c1] at b1
  rw [c2] at b2
  have e1 : (x * T) * (x * T) + (y * T) * (y * T) = (x * x + y * y) * (T * T) := by grind
  have tt := tsq_nn T
  have u1 : (x * x + y * y) * (T * T) ≤ 1152921504606846976 * (T * T) := Int.mul_le_mul_of_nonneg_right s2 tt
  have u2 : 1152921504606846976 * (T * T) ≤ (x * x + y * y + 1098437885952) * (T * T) := Int.mul_le_mul_of_nonneg_right s1 tt
  rw [Int.add_mul] at u2
  have u3 : (absI x + absI y) * T ≤ 1518500250 * T := Int.mul_le_mul_of_nonneg_right sm.2 h0
  rw [Int.add_mul] at u3
  have u4 : T * T ≤ 1000000 * T := Int.mul_le_mul_of_nonneg_right h1 h0
  have f1 : (T + 1) * (T + 1) = T * T + 2 * T + 1 := by grind
  have f2 : (T - 4) * (T - 4) = T * T - 8 * T + 16 := by grind
  generalize absI x * T = g1 at *
  generalize absI y * T = g2 at *
  generalize (x * T) * (x * T) = X at *
  generalize (y * T) * (y * T) = Y at *
  generalize (x * x + y * y) * (T * T) = Z at *
  generalize tdO (x * T) * tdO (x * T) = p at *
  generalize tdO (y * T) * tdO (y * T) = q at *
  have r0 := (rt_is (p + q) (by omega)).1
  refine ⟨r0, rt_le (p + q) T (by omega) h0 (by rw [f1]; omega), ?_⟩
  rcases (show T ≤ 3 ∨ 4 ≤ T by omega) with k | k
  · omega
  · have := le_rt (p + q) (T - 4) (by omega) (by rw [f2]; omega)
    omega
theorem wcl_id {n : Int} (h : -10000000 ≤ n ∧ n ≤ 10000000) : wcl n = n := by unfold wcl; omega
/-- The flow of a wind that stays, what is seen of it. -/
theorem stays {a : Nat} {T v0 v1 : Int} (h0 : 0 ≤ T) (h1 : T ≤ 1000000) (b0 : -100000 ≤ v0 ∧ v0 ≤ 100000) (b1 : -100000 ≤ v1 ∧ v1 ≤ 100000) (ha : a < 65536) :
    ∃ p q : Int, (trV (atP a).1 (clp T) 1073741824 = p ∧ trV (atP a).2 (clp T) 1073741824 = q) ∧ (-1000000 ≤ p ∧ p ≤ 1000000) ∧ (-1000000 ≤ q ∧ q ≤ 1000000) ∧ wdN a T (p + v0) = v0 ∧ wdE a T (q + v1) = v1 ∧ wcl (p + v0) - v0 = p ∧ wcl (q + v1) - v1 = q ∧ 0 ≤ rt (sqc p + sqc q) ∧ rt (sqc p + sqc q) ≤ T ∧ T ≤ rt (sqc p + sqc q) + 4 := by
  have bd := (atP_le a).one
  have an := at_any a ha
  unfold AtR at an
  have ec : clp T = T := by unfold clp; omega
  have l1 := tdO_le (c := T) bd.1
  have l2 := tdO_le (c := T) bd.2
  have n := air_near h0 h1 an.1 an.2.1
  have e1 := trV_tdO (b := T) bd.1 ⟨by omega, by omega⟩
  have e2 := trV_tdO (b := T) bd.2 ⟨by omega, by omega⟩
  have eT : absI T = T := by unfold absI; omega
  rw [eT] at l1 l2
  have q1 : -1000000 ≤ tdO ((atP a).1 * T) ∧ tdO ((atP a).1 * T) ≤ 1000000 := by unfold absI at l1; omega
  have q2 : -1000000 ≤ tdO ((atP a).2 * T) ∧ tdO ((atP a).2 * T) ≤ 1000000 := by unfold absI at l2; omega
  refine ⟨_, _, ⟨by rw [ec]; exact e1, by rw [ec]; exact e2⟩, q1, q2, ?_, ?_, ?_, ?_, ?_⟩
  · unfold wdN; rw [wcl_id (n := T) ⟨by omega, by omega⟩, wcl_id ⟨by omega, by omega⟩]; omega
  · unfold wdE; rw [wcl_id (n := T) ⟨by omega, by omega⟩, wcl_id ⟨by omega, by omega⟩]; omega
  · rw [wcl_id ⟨by omega, by omega⟩]; omega
  · rw [wcl_id ⟨by omega, by omega⟩]; omega
  · rw [sqc_id ⟨by omega, by omega⟩, sqc_id ⟨by omega, by omega⟩]; exact n
set_option maxRecDepth 100000 in
set_option maxHeartbeats 8000000 in
theorem law_WindStays (sh v0 v1 : Int) (tp : Option Addr) (cap : Nat) (rows : List (List Value)) (w : World) (ht : Tab [some .i64, some .u16, some .i64, some .i64] w tp rows) (hl : rows.length ≤ maxLen) : Calls Try.prog 11 #[.int .i64 sh, .agg #[.int .i64 v0, .int .i64 v1], .slice tp rows.length cap] w fun e w' => e = .returned (.bool true) ∧ Below w.heap.size w w' := by
  unfold maxLen at hl
  have LV := Lib.hid (fun u => lives20 u)
  obtain ⟨V, eV, hbV, pV⟩ : ∃ V, V = w.alloc (.cells #[.int .i64 v0, .int .i64 v1] 72) ∧ Below w.heap.size w V ∧ Held w.heap.size [.int .i64 v0, .int .i64 v1] V := ⟨_, rfl, (by repeat (first | exact Below.refl _ _ | assumption | apply Below.drew | apply below_drewN | (refine Below.alloc ?_ (by first | exact Nat.le_refl _ | omega | (simp <;> omega)) _) | (refine Below.setCell ?_ (by first | exact Nat.le_refl _ | omega | (simp <;> omega)) _))), Held.new w [.int .i64 v0, .int .i64 v1] _⟩
  have hqlt := pV.lt
  by_cases hs : 0 ≤ sh ∧ sh ≤ 16
  · have NW := Lib.hid (wnewL sh w V hbV hs.1 hs.2)
    clear hbV
    by_cases hbig : 30 < rows.length
    · go_enter Try.func11, Try.ntmps11
      go_upto_region 1 with (fail)
      rw [← eV]
      clear eV
      obtain ⟨qv, hq⟩ : ∃ q, q = w.heap.size := ⟨_, rfl⟩
      rw [← hq] at pV hqlt ⊢
      replace hq := Lib.hid hq
      replace pV := Lib.hid pV
      go_wp2_with fail
      refine NW.out.mono ?_
      rintro e w1 ⟨b, n, e, rfl, m1, hb1, f1, f2, f3⟩
      replace pV := Lib.hid (pV.out.bel hb1)
      have xv := Lib.hid (show Out3 qv b n e from ⟨by omega, by omega, by omega⟩)
      have ob := m1.o.r.lt
      have on := m1.o.hn.lt
      have oe := m1.o.he.lt
      clear hb1 f1 f2 f3 hqlt
      replace m1 := Lib.hid m1
      obtain ⟨c0, _⟩ := pV.out.one 0 rfl
      obtain ⟨c1v, _⟩ := pV.out.one 1 rfl
      clear ob on oe
      go_wp2_with fail
      refine (LV.out _).mono ?_
      rintro e w7 ⟨rfl, hb7⟩
      go_wp2
      go_ret
      exact ⟨rfl, (m1.out.bel hb7).bw⟩
    · by_cases hv : (-100000 ≤ v0 ∧ v0 ≤ 100000) ∧ (-100000 ≤ v1 ∧ v1 ≤ 100000)
      · obtain ⟨bv0, bv1⟩ := hv
        have RS := Lib.hid (fun u (k : Below w.heap.size w u) => rsteps04 u)
        go_enter Try.func11, Try.ntmps11
        go_upto_region 1 with (fail)
        rw [← eV]
        clear eV
        obtain ⟨qv, hq⟩ : ∃ q, q = w.heap.size := ⟨_, rfl⟩
        rw [← hq] at pV hqlt ⊢
        replace hq := Lib.hid hq
        replace pV := Lib.hid pV
        go_wp2_with fail
        refine NW.out.mono ?_
        rintro e w1 ⟨b, n, e, rfl, m1, hb1, f1, f2, f3⟩
        replace pV := Lib.hid (pV.out.bel hb1)
        have xv := Lib.hid (show Out3 qv b n e from ⟨by omega, by omega, by omega⟩)
        have ob := m1.o.r.lt
        have on := m1.o.hn.lt
        have oe := m1.o.he.lt
        clear hb1 f1 f2 f3 hqlt
        replace m1 := Lib.hid m1
        obtain ⟨c0, _⟩ := pV.out.one 0 rfl
        obtain ⟨c1v, _⟩ := pV.out.one 1 rfl
        go_wp2_with fail
        refine (RS.out _ m1.out.bw).mono ?_
        rintro q w2 ⟨x, y, rfl, hD, hb2⟩
        obtain ⟨g1, o1, c1, g2, o2, c2, rfl, rfl, q1, q2, s2⟩ := hD.st
        have m2 := Lib.hid (m1.out.bel hb2)
        replace pV := Lib.hid (pV.out.bel hb2)
        have x1 := Lib.hid (show Out3 g1 b n e from ⟨by omega, by omega, by omega⟩)
        have x2 := Lib.hid (show Out3 g2 b n e from ⟨by omega, by omega, by omega⟩)
        replace s2 := Lib.hid s2
        clear hD hb2 q1 q2 ob on oe m1 c0 c1v RS NW
        go_wp2_with fail
        go_loopw [11] (fun i v => ∃ (k : Nat) (yn ye : Int) (kn : Bool), k ≤ rows.length ∧ i = .int .i64 (k : Int) ∧ (kn = true → yn = v0 ∧ ye = v1) ∧ (-20000000 ≤ yn ∧ yn ≤ 20000000) ∧ (-20000000 ≤ ye ∧ ye ≤ 20000000) ∧ Hid (WdL b n e sh yn ye kn w v) ∧ Hid (StT g1 o1 g2 o2 v) ∧ Hid (Held qv [.int .i64 v0, .int .i64 v1] v)) (fun i _ => (rows.length : Int).toNat - (intOf i).toNat)
        case atStart => exact ⟨0, 0, 0, false, by omega, rfl, by simp, by omega, by omega, m2, s2, pV⟩
        case round =>
          clear m2 s2 pV
          obtain ⟨k, yn, ye, kn, hk, rfl, hkn, bn, be, m2, s2, pV⟩ := hrel
          generalize wr = u0 at *
          by_cases hlt : k < rows.length
          · obtain ⟨tb, off, t, a, no, ea, rfl, htb, ha, hcells⟩ := flow_at ht hlt
            obtain ⟨k0, k1, k2, k3⟩ := hcells u0 m2.out.bw
            clear hcells htb ht
            have i1 : (k : Int) < rows.length := by omega
            have i2 : IntKind.i64.wrap ((k : Int) + 1) = (k : Int) + 1 := by rw [IntKind.wrap_i64]; omega
            obtain ⟨W, eW, hbW, pf⟩ : ∃ W, W = u0.alloc (.cells #[.int .i64 t, .int .u16 (a : Int), .int .i64 no, .int .i64 ea] 58) ∧ Below u0.heap.size u0 W ∧ Held u0.heap.size [.int .i64 t, .int .u16 (a : Int), .int .i64 no, .int .i64 ea] W := ⟨_, rfl, (by repeat (first | exact Below.refl _ _ | assumption | apply Below.drew | apply below_drewN | (refine Below.alloc ?_ (by first | exact Nat.le_refl _ | omega | (simp <;> omega)) _) | (refine Below.setCell ?_ (by first | exact Nat.le_refl _ | omega | (simp <;> omega)) _))), Held.new u0 [.int .i64 t, .int .u16 (a : Int), .int .i64 no, .int .i64 ea] _⟩
            have hf := Lib.hid (show u0.heap.size ≠ qv ∧ u0.heap.size ≠ g1 ∧ u0.heap.size ≠ g2 ∧ Out3 u0.heap.size b n e ∧ w.heap.size ≤ u0.heap.size from by
              have a1 := pV.out.lt; have a3 := m2.out.o.r.lt; have a4 := m2.out.o.hn.lt; have a5 := m2.out.o.he.lt; have a6 := m2.out.bw.size; have a7 := s2.out.l1; have a8 := s2.out.l2
              exact ⟨by omega, by omega, by omega, ⟨by omega, by omega, by omega⟩, by omega⟩)
            replace m2 := Lib.hid (m2.out.bel hbW)
            replace s2 := Lib.hid (s2.out.bel hbW)
            replace pV := Lib.hid (pV.out.bel hbW)
            replace pf := Lib.hid pf
            go_upto_region 9 with (fail)
            rw [← eW]
            clear eW hbW k0 k1 k2 k3
            generalize u0.heap.size = s at *
            clear u0
            obtain ⟨k0, _⟩ := pf.out.one 0 rfl
            obtain ⟨k1, _⟩ := pf.out.one 1 rfl
            obtain ⟨k2, e2⟩ := pf.out.one 2 rfl
            obtain ⟨k3, e3⟩ := pf.out.one 3 rfl
            obtain ⟨c0, _⟩ := pV.out.one 0 rfl
            obtain ⟨c1v, _⟩ := pV.out.one 1 rfl
            by_cases hT : 0 ≤ t ∧ t ≤ 1000000
            · obtain ⟨P, Q, ⟨eP, eQ⟩, bP, bQ, eN, eE, aN, aE, r0, r1, r2⟩ := stays (a := a) hT.1 hT.2 bv0 bv1 ha
              have RP := fun u m => rpoint04 g1 o1 c1 g2 o2 c2 a t u m ha
              rw [eP, eQ] at RP
              replace RP := Lib.hid RP
              have SP := fun u (m : WdL b n e sh yn ye kn w u) => wstep (b := b) (n := n) (e := e) a t (P + v0) (Q + v1) u m.o ha hs.1 hs.2 bn be
              rw [eN, eE] at SP
              have ly : lgV sh (if kn = true then yn else v0) v0 = v0 := by cases kn; exact lgV_self sh v0; rw [if_pos rfl, (hkn rfl).1]; exact lgV_self sh v0
              have lz : lgV sh (if kn = true then ye else v1) v1 = v1 := by cases kn; exact lgV_self sh v1; rw [if_pos rfl, (hkn rfl).2]; exact lgV_self sh v1
              rw [ly, lz] at SP
              replace SP := Lib.hid SP
              clear ly lz
              have WW := Lib.hid (fun u (m : WdL b n e sh v0 v1 true w u) => wwind (b := b) (n := n) (e := e) u m.o)
              have WA := fun u (m : WdL b n e sh v0 v1 true w u) => wair (b := b) (n := n) (e := e) (P + v0) (Q + v1) u m.o (by omega) (by omega)
              rw [aN, aE] at WA
              generalize rt (sqc P + sqc Q) = R at *
              replace WA := Lib.hid WA
              have AB := Lib.hid (fun u => rabs_any (R - t) u (by omega))
              have la : absI (R - t) ≤ 4 := by unfold absI; omega
              have wR : IntKind.i64.wrap (R - t) = R - t := by rw [IntKind.wrap_i64]; omega
              have wd : t.tdiv 500000 = t / 500000 := Int.tdiv_eq_ediv_of_nonneg hT.1
              obtain ⟨D, eD⟩ : ∃ D, t / 500000 = D := ⟨_, rfl⟩
              rw [eD] at wd
              have wD : IntKind.i64.wrap D = D := by rw [IntKind.wrap_i64]; omega
              have wD4 : IntKind.i64.wrap (D + 4) = D + 4 := by rw [IntKind.wrap_i64]; omega
              have gl : ¬ D + 4 < absI (R - t) := by omega
              generalize absI (R - t) = AA at *
              obtain ⟨NN, eNN⟩ : ∃ z, z = P + v0 := ⟨_, rfl⟩
              obtain ⟨EE, eEE⟩ : ∃ z, z = Q + v1 := ⟨_, rfl⟩
              have wP : IntKind.i64.wrap (P + v0) = NN := by rw [eNN, IntKind.wrap_i64]; omega
              have wQ : IntKind.i64.wrap (Q + v1) = EE := by rw [eEE, IntKind.wrap_i64]; omega
              have w7 : IntKind.i64.wrap (a : Int) = (a : Int) := by rw [IntKind.wrap_i64]; omega
              clear eP eQ eN eE aN aE r0 r1 r2 bP bQ la eD
              have t1 : ¬ t < 0 := by omega
              have t2 : ¬ 1000000 < t := by omega
              rw [← eNN] at SP WA
              rw [← eEE] at SP WA
              replace eNN := Lib.hid eNN
              replace eEE := Lib.hid eEE
              go_wp2_with fail
              refine (RP.out _ s2.out).mono ?_
              rintro q w3 ⟨rfl, hb3⟩
              obtain ⟨X, eX, hbX, pp⟩ : ∃ X, X = w3.alloc (.cells #[.int .i64 P, .int .i64 Q] 48) ∧ Below w3.heap.size w3 X ∧ Held w3.heap.size [.int .i64 P, .int .i64 Q] X := ⟨_, rfl, (by repeat (first | exact Below.refl _ _ | assumption | apply Below.drew | apply below_drewN | (refine Below.alloc ?_ (by first | exact Nat.le_refl _ | omega | (simp <;> omega)) _) | (refine Below.setCell ?_ (by first | exact Nat.le_refl _ | omega | (simp <;> omega)) _))), Held.new w3 [.int .i64 P, .int .i64 Q] _⟩
              have hz3 := hb3.size
              replace hb3 := hb3.trans (hbX.mono hb3.size)
              have hps : w3.heap.size ≠ s := by have := pf.out.lt; omega
              replace m2 := Lib.hid (m2.out.bel hb3)
              replace s2 := Lib.hid (s2.out.bel hb3)
              replace pV := Lib.hid (pV.out.bel hb3)
              replace pf := Lib.hid (pf.out.bel hb3)
              replace pp := Lib.hid pp
              go_upto_region 12 with (fail)
              rw [← eX]
              clear eX hbX hb3 hz3 k0 k1 k2 k3 e2 e3 c0 c1v
              generalize w3.heap.size = p at *
              clear w3
              replace hps := Lib.hid hps
              obtain ⟨k0, _⟩ := pf.out.one 0 rfl
              obtain ⟨k2, e2⟩ := pf.out.one 2 rfl
              obtain ⟨c0, _⟩ := pV.out.one 0 rfl
              obtain ⟨p0, _⟩ := pp.out.one 0 rfl
              go_upto_region 13 with (fail)
              obtain ⟨Y, eY, oY⟩ : ∃ Y, Y = X.setCell ⟨s, 2, none⟩ (.int .i64 NN) ∧ Only s X Y := ⟨_, rfl, (Only.refl s X).setCell (p := ⟨s, 2, none⟩) _⟩
              replace pf := Lib.hid (show Held s [.int .i64 t, .int .u16 (a : Int), .int .i64 NN, .int .i64 ea] Y from by rw [eY]; exact pf.out.set 2 _ (by simp))
              rw [← eY]
              replace m2 := Lib.hid (m2.out.aside oY hf.out.2.2.2.1 hf.out.2.2.2.2)
              replace s2 := Lib.hid (s2.out.beside (.of_only oY) (Ne.symm hf.out.2.1) (Ne.symm hf.out.2.2.1))
              replace pV := Lib.hid (pV.out.only oY (Ne.symm hf.out.1))
              replace pp := Lib.hid (pp.out.only oY hps.out)
              clear eY oY k0 k2 e2 c0 p0
              obtain ⟨k3, e3⟩ := pf.out.one 3 rfl
              obtain ⟨c1v, _⟩ := pV.out.one 1 rfl
              obtain ⟨p1, _⟩ := pp.out.one 1 rfl
              go_upto_region 14 with (fail)
              obtain ⟨Z, eZ, oZ⟩ : ∃ Z, Z = Y.setCell ⟨s, 3, none⟩ (.int .i64 EE) ∧ Only s Y Z := ⟨_, rfl, (Only.refl s Y).setCell (p := ⟨s, 3, none⟩) _⟩
              replace pf := Lib.hid (show Held s [.int .i64 t, .int .u16 (a : Int), .int .i64 NN, .int .i64 EE] Z from by rw [eZ]; exact pf.out.set 3 _ (by simp))
              rw [← eZ]
              replace m2 := Lib.hid (m2.out.aside oZ hf.out.2.2.2.1 hf.out.2.2.2.2)
              replace s2 := Lib.hid (s2.out.beside (.of_only oZ) (Ne.symm hf.out.2.1) (Ne.symm hf.out.2.2.1))
              replace pV := Lib.hid (pV.out.only oZ (Ne.symm hf.out.1))
              clear eZ oZ k3 e3 c1v p1 pp
              obtain ⟨k0, _⟩ := pf.out.one 0 rfl
              obtain ⟨k1, _⟩ := pf.out.one 1 rfl
              obtain ⟨k2, _⟩ := pf.out.one 2 rfl
              obtain ⟨k3, _⟩ := pf.out.one 3 rfl
              go_wp2_with fail
              refine (SP.out _ m2.out).mono ?_
              rintro q w4 ⟨rfl, o4, l4⟩
              replace m2 := Lib.hid (m2.out.step o4 l4)
              replace s2 := Lib.hid (s2.out.bl l4 x1.out.no x2.out.no)
              replace pV := Lib.hid (pV.out.bl l4 xv.out.no)
              replace pf := Lib.hid (pf.out.bl l4 hf.out.2.2.2.1.no)
              clear o4 l4 k0 k1 k2 k3 SP RP
              go_wp2_with fail
              refine (WW.out _ m2.out).mono ?_
              rintro q w5 ⟨rfl, hb5⟩
              replace m2 := Lib.hid (m2.out.bel hb5)
              replace s2 := Lib.hid (s2.out.bel hb5)
              replace pV := Lib.hid (pV.out.bel hb5)
              replace pf := Lib.hid (pf.out.bel hb5)
              clear hb5 WW
              obtain ⟨k2, _⟩ := pf.out.one 2 rfl
              obtain ⟨k3, _⟩ := pf.out.one 3 rfl
              obtain ⟨c0, _⟩ := pV.out.one 0 rfl
              obtain ⟨c1v, _⟩ := pV.out.one 1 rfl
              go_wp2_with fail
              refine (WA.out _ m2.out).mono ?_
              rintro q w6 ⟨rfl, hb6⟩
              replace m2 := Lib.hid (m2.out.bel hb6)
              replace s2 := Lib.hid (s2.out.bel hb6)
              replace pV := Lib.hid (pV.out.bel hb6)
              replace pf := Lib.hid (pf.out.bel hb6)
              clear hb6 WA k2 k3 c0 c1v
              obtain ⟨k0, _⟩ := pf.out.one 0 rfl
              go_wp2_with fail
              refine region_moves (fun u => u.cell? ⟨s, 0, none⟩ = some (.int .i64 t)) [] [(.free, 0), (.free, 1), (.free, 2), (.free, 3), (.free, 4), (.take, 5), (.free, 6), (.free, 8), (.take, 9), (.free, 10), (.free, 11), (.step, 7), (.free, 12), (.free, 13)] _ (by kernel_rfl) (by kernel_rfl) (by kernel_rfl) (by kernel_rfl) (by decide) rfl (fun _ _ _ _ _ h => h) ?_
              simp only [List.filterMap_cons, List.filterMap_nil, List.getElem?_toArray, List.getElem?_cons_zero, List.getElem?_cons_succ, Option.map_some]
              iterate 5
                first
                  | (refine mv_free ?_ (Or.inl ⟨by rfl, ?_⟩) (k0) ?_
                     rotate_left 1
                     · intro u
                       go_simp
                       try simp only [d1]
                       try simp only [d2]
                       try simp only [d3]
                       try with_reducible rfl
                     simp only [Act.put, List.setIfInBounds_toArray, List.set_cons_zero, List.set_cons_succ])
                  | (refine mv_free _ (Or.inr ⟨by rfl, rfl⟩) (k0) ?_
                     simp only [Act.put, List.setIfInBounds_toArray, List.set_cons_zero, List.set_cons_succ])
              iterate 1
                first
                  | (refine mv_take ?_ (Or.inl ⟨by rfl, ?_⟩) (k0) ?_
                     rotate_left 1
                     · intro u hu
                       (try dsimp only at hu)
                       go_simp
                       try with_reducible rfl
                     simp only [Act.put, List.setIfInBounds_toArray, List.set_cons_zero, List.set_cons_succ])
                  | (refine mv_take _ (Or.inr ⟨by rfl, rfl⟩) (k0) ?_
                     simp only [Act.put, List.setIfInBounds_toArray, List.set_cons_zero, List.set_cons_succ])
              iterate 2
                first
                  | (refine mv_free ?_ (Or.inl ⟨by rfl, ?_⟩) (k0) ?_
                     rotate_left 1
                     · intro u
                       go_simp
                       try simp only [d1]
                       try simp only [d2]
                       try simp only [d3]
                       try with_reducible rfl
                     simp only [Act.put, List.setIfInBounds_toArray, List.set_cons_zero, List.set_cons_succ])
                  | (refine mv_free _ (Or.inr ⟨by rfl, rfl⟩) (k0) ?_
                     simp only [Act.put, List.setIfInBounds_toArray, List.set_cons_zero, List.set_cons_succ])
              iterate 1
                first
                  | (refine mv_take ?_ (Or.inl ⟨by rfl, ?_⟩) (k0) ?_
                     rotate_left 1
                     · intro u hu
                       (try dsimp only at hu)
                       go_simp
                       try with_reducible rfl
                     simp only [Act.put, List.setIfInBounds_toArray, List.set_cons_zero, List.set_cons_succ])
                  | (refine mv_take _ (Or.inr ⟨by rfl, rfl⟩) (k0) ?_
                     simp only [Act.put, List.setIfInBounds_toArray, List.set_cons_zero, List.set_cons_succ])
              iterate 2
                first
                  | (refine mv_free ?_ (Or.inl ⟨by rfl, ?_⟩) (k0) ?_
                     rotate_left 1
                     · intro u
                       go_simp
                       try simp only [d1]
                       try simp only [d2]
                       try simp only [d3]
                       try with_reducible rfl
                     simp only [Act.put, List.setIfInBounds_toArray, List.set_cons_zero, List.set_cons_succ])
                  | (refine mv_free _ (Or.inr ⟨by rfl, rfl⟩) (k0) ?_
                     simp only [Act.put, List.setIfInBounds_toArray, List.set_cons_zero, List.set_cons_succ])
              refine mv_step (fun K hK => ?_)
              go_simp
              refine (AB.out _).mono ?_
              rintro q w8 ⟨rfl, rfl⟩
              go_wp2_with fail
              refine hK.out _ _ _ (fun u hu => hu) (k0) ?_
              clear hK K
              iterate 2
                first
                  | (refine mv_free ?_ (Or.inl ⟨by rfl, ?_⟩) (k0) ?_
                     rotate_left 1
                     · intro u
                       go_simp
                       try simp only [d1]
                       try simp only [d2]
                       try simp only [d3]
                       try with_reducible rfl
                     simp only [Act.put, List.setIfInBounds_toArray, List.set_cons_zero, List.set_cons_succ])
                  | (refine mv_free _ (Or.inr ⟨by rfl, rfl⟩) (k0) ?_
                     simp only [Act.put, List.setIfInBounds_toArray, List.set_cons_zero, List.set_cons_succ])
              refine mv_done ?_
              replace m2 := Lib.hid (m2.out.bel (Below.refl _ _).drew)
              replace s2 := Lib.hid (s2.out.bel (Below.refl _ _).drew)
              replace pV := Lib.hid pV.out.drew
              go_wp2
              go_roundw
              case rel => exact ⟨k + 1, v0, v1, true, by omega, by first | rfl | go_num, fun _ => ⟨rfl, rfl⟩, by omega, by omega, m2, s2, pV⟩
              case measure => simp [intOf] <;> omega
            · have hT2 : t < 0 ∨ 1000000 < t := by omega
              rcases hT2 with hT2 | hT2
              · go_wp2_with fail
                refine (LV.out _).mono ?_
                rintro e w7 ⟨rfl, hb7⟩
                go_wp2
                go_ret
                exact ⟨rfl, (m2.out.bel hb7).bw⟩
              · have t1 : ¬ t < 0 := by omega
                go_wp2_with fail
                refine (LV.out _).mono ?_
                rintro e w7 ⟨rfl, hb7⟩
                go_wp2
                go_ret
                exact ⟨rfl, (m2.out.bel hb7).bw⟩
          · have hk3 : ¬ (k : Int) < rows.length := by omega
            go_wp2_with fail
            refine (LV.out _).mono ?_
            rintro e w7 ⟨rfl, hb7⟩
            go_wp2
            go_ret
            exact ⟨rfl, (m2.out.bel hb7).bw⟩
      · have hv2 : v0 < -100000 ∨ 100000 < v0 ∨ v1 < -100000 ∨ 100000 < v1 := by omega
        clear hv
        go_enter Try.func11, Try.ntmps11
        go_upto_region 1 with (fail)
        rw [← eV]
        clear eV
        obtain ⟨qv, hq⟩ : ∃ q, q = w.heap.size := ⟨_, rfl⟩
        rw [← hq] at pV hqlt ⊢
        replace hq := Lib.hid hq
        replace pV := Lib.hid pV
        go_wp2_with fail
        refine NW.out.mono ?_
        rintro e w1 ⟨b, n, e, rfl, m1, hb1, f1, f2, f3⟩
        replace pV := Lib.hid (pV.out.bel hb1)
        have xv := Lib.hid (show Out3 qv b n e from ⟨by omega, by omega, by omega⟩)
        have ob := m1.o.r.lt
        have on := m1.o.hn.lt
        have oe := m1.o.he.lt
        clear hb1 f1 f2 f3 hqlt
        replace m1 := Lib.hid m1
        obtain ⟨c0, _⟩ := pV.out.one 0 rfl
        obtain ⟨c1v, _⟩ := pV.out.one 1 rfl
        clear ob on oe
        rcases hv2 with hv2 | hv2 | hv2 | hv2
        · go_wp2_with fail
          refine (LV.out _).mono ?_
          rintro e w7 ⟨rfl, hb7⟩
          go_wp2
          go_ret
          exact ⟨rfl, (m1.out.bel hb7).bw⟩
        · have z1 : ¬ v0 < -100000 := by omega
          go_wp2_with fail
          refine (LV.out _).mono ?_
          rintro e w7 ⟨rfl, hb7⟩
          go_wp2
          go_ret
          exact ⟨rfl, (m1.out.bel hb7).bw⟩
        · by_cases z1 : v0 < -100000
          · go_wp2_with fail
            refine (LV.out _).mono ?_
            rintro e w7 ⟨rfl, hb7⟩
            go_wp2
            go_ret
            exact ⟨rfl, (m1.out.bel hb7).bw⟩
          · by_cases z2 : 100000 < v0
            · go_wp2_with fail
              refine (LV.out _).mono ?_
              rintro e w7 ⟨rfl, hb7⟩
              go_wp2
              go_ret
              exact ⟨rfl, (m1.out.bel hb7).bw⟩
            · go_wp2_with fail
              refine (LV.out _).mono ?_
              rintro e w7 ⟨rfl, hb7⟩
              go_wp2
              go_ret
              exact ⟨rfl, (m1.out.bel hb7).bw⟩
        · by_cases z1 : v0 < -100000
          · go_wp2_with fail
            refine (LV.out _).mono ?_
            rintro e w7 ⟨rfl, hb7⟩
            go_wp2
            go_ret
            exact ⟨rfl, (m1.out.bel hb7).bw⟩
          · by_cases z2 : 100000 < v0
            · go_wp2_with fail
              refine (LV.out _).mono ?_
              rintro e w7 ⟨rfl, hb7⟩
              go_wp2
              go_ret
              exact ⟨rfl, (m1.out.bel hb7).bw⟩
            · have z3 : ¬ v1 < -100000 := by omega
              go_wp2_with fail
              refine (LV.out _).mono ?_
              rintro e w7 ⟨rfl, hb7⟩
              go_wp2
              go_ret
              exact ⟨rfl, (m1.out.bel hb7).bw⟩
  · have NW := Lib.hid (wnew_no sh V hs)
    go_enter Try.func11, Try.ntmps11
    go_upto_region 1 with (fail)
    rw [← eV]
    clear eV
    obtain ⟨qv, hq⟩ : ∃ q, q = w.heap.size := ⟨_, rfl⟩
    rw [← hq] at pV hqlt ⊢
    replace hq := Lib.hid hq
    replace pV := Lib.hid pV
    go_wp2_with fail
    refine NW.out.mono ?_
    rintro e w1 ⟨rfl, rfl⟩
    obtain ⟨c0, _⟩ := pV.out.one 0 rfl
    obtain ⟨c1v, _⟩ := pV.out.one 1 rfl
    replace hbV := Lib.hid hbV
    go_wp2_with fail
    refine (LV.out _).mono ?_
    rintro e w7 ⟨rfl, hb7⟩
    go_wp2
    go_ret
    exact ⟨rfl, by rw [hq.out] at hqlt; exact hbV.out.trans (hb7.mono (Nat.le_of_lt hqlt))⟩
end Go.Proofs.Ytiibgblpbjdpaaa
