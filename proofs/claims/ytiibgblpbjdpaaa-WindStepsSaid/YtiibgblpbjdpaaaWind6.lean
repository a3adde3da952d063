/- The law WindSteps; walked. -/
import Derived.Test.YtiibgblpbjdpaaaWind4
import Derived.Deep.Cut
namespace Go.Proofs.Ytiibgblpbjdpaaa
open Go.ChangeShapes Go.WideShapes Go.ChangeAt Go.RowKit
set_option linter.unusedVariables false
set_option linter.unusedSimpArgs false
theorem WdL.beside {b n e q : Nat} {sh yn ye : Int} {kn : Bool} {w u u' : World} (h : WdL b n e sh yn ye kn w u) (k : Beside q u u') (x : Out3 q b n e) (hq : w.heap.size ≤ q) : WdL b n e sh yn ye kn w u' :=
  ⟨⟨h.o.r.beside k (Ne.symm x.b), h.o.hn.beside k (Ne.symm x.n), h.o.he.beside k (Ne.symm x.e), h.o.bn, h.o.be, h.o.ne⟩, h.bw.trans (k.below hq h.bw.size), h.hb, h.hn, h.he⟩
theorem wcl2 (n y : Int) (h : -20000000 ≤ y ∧ y ≤ 20000000) : -30000000 ≤ wcl n - y ∧ wcl n - y ≤ 30000000 := by
  have := wcl_bd n
  omega
set_option maxRecDepth 100000 in
set_option maxHeartbeats 8000000 in
theorem law_WindSteps (sh : Int) (tp : Option Addr) (cap : Nat) (rows : List (List Value)) (v0 v1 : Int) (w : World) (ht : Tab [some .i64, some .u16, some .i64, some .i64] w tp rows) (hl : rows.length ≤ maxLen) : Calls Try.prog 9 #[.int .i64 sh, .slice tp rows.length cap, .agg #[.int .i64 v0, .int .i64 v1]] w fun e w' => e = .returned (.bool true) ∧ Below w.heap.size w w' := by
  unfold maxLen at hl
  have LV := Lib.hid (fun u => lives20 u)
  obtain ⟨V, eV, hbV, pV⟩ : ∃ V, V = w.alloc (.cells #[.int .i64 v0, .int .i64 v1] 72) ∧ Below w.heap.size w V ∧ Held w.heap.size [.int .i64 v0, .int .i64 v1] V := ⟨_, rfl, (by repeat (first | exact Below.refl _ _ | assumption | apply Below.drew | apply below_drewN | (refine Below.alloc ?_ (by first | exact Nat.le_refl _ | omega | (simp <;> omega)) _) | (refine Below.setCell ?_ (by first | exact Nat.le_refl _ | omega | (simp <;> omega)) _))), Held.new w [.int .i64 v0, .int .i64 v1] _⟩
  have hqlt := pV.lt
  by_cases hbig : 30 < rows.length
  · replace hbV := Lib.hid hbV
    go_enter Try.func9, Try.ntmps9
    go_upto_region 1 with (fail)
    rw [← eV]
    clear eV
    obtain ⟨qv, hq⟩ : ∃ q, q = w.heap.size := ⟨_, rfl⟩
    rw [← hq] at pV hqlt ⊢
    replace hq := Lib.hid hq
    replace pV := Lib.hid pV
    go_wp2_with fail
    refine (LV.out _).mono ?_
    rintro e w7 ⟨rfl, hb7⟩
    go_wp2
    go_ret
    exact ⟨rfl, by rw [hq.out] at hqlt; exact hbV.out.trans (hb7.mono (Nat.le_of_lt hqlt))⟩
  by_cases hs : 0 ≤ sh ∧ sh ≤ 16
  · have s1 : ¬ sh < 0 := by omega
    have s2z : ¬ 16 < sh := by omega
    have RS := Lib.hid (rsteps04 V)
    have NW := Lib.hid (fun u (k : Below w.heap.size w u) => wnewL sh w u k hs.1 hs.2)
    replace hbV := Lib.hid hbV
    go_enter Try.func9, Try.ntmps9
    go_upto_region 1 with (fail)
    rw [← eV]
    clear eV
    obtain ⟨qv, hq⟩ : ∃ q, q = w.heap.size := ⟨_, rfl⟩
    rw [← hq] at pV hqlt ⊢
    replace hq := Lib.hid hq
    replace pV := Lib.hid pV
    go_wp2_with fail
    refine RS.out.mono ?_
    rintro q w2 ⟨x, y, rfl, hD, hb2⟩
    obtain ⟨g1, o1, c1, g2, o2, c2, rfl, rfl, q1, q2, s2⟩ := hD.st
    replace pV := Lib.hid (pV.out.bel hb2)
    have qv2 := pV.out.lt
    have b2 := Lib.hid (hbV.out.trans (hb2.mono (by have := hq.out; omega)))
    have l1 := s2.l1
    have l2 := s2.l2
    replace s2 := Lib.hid s2
    clear hb2 hD q1 q2 hbV
    go_wp2_with fail
    refine (NW.out _ b2.out).mono ?_
    rintro e w1 ⟨b, n, e, rfl, m1, hb1, f1, f2, f3⟩
    have x1 := Lib.hid (show Out3 g1 b n e from ⟨by omega, by omega, by omega⟩)
    have x2 := Lib.hid (show Out3 g2 b n e from ⟨by omega, by omega, by omega⟩)
    have xv := Lib.hid (show Out3 qv b n e from ⟨by omega, by omega, by omega⟩)
    replace pV := Lib.hid (pV.out.bel hb1)
    replace s2 := Lib.hid (s2.out.bel hb1)
    have ob := m1.o.r.lt
    have on := m1.o.hn.lt
    have oe := m1.o.he.lt
    have hs1 := hb1.size
    have bw1 := m1.bw.size
    obtain ⟨X, eX, hbX, px, py⟩ : ∃ X, X = (w1.alloc (.cells #[.int .i64 sh, .int .i64 0, .bool false] 74)).alloc (.cells #[.int .i64 sh, .int .i64 0, .bool false] 74) ∧ Below w1.heap.size w1 X ∧ Held w1.heap.size (lgC sh 0 false) X ∧ Held (w1.heap.size + 1) (lgC sh 0 false) X := ⟨_, rfl, (by repeat (first | exact Below.refl _ _ | assumption | apply Below.drew | apply below_drewN | (refine Below.alloc ?_ (by first | exact Nat.le_refl _ | omega | (simp <;> omega)) _) | (refine Below.setCell ?_ (by first | exact Nat.le_refl _ | omega | (simp <;> omega)) _))), (Held.new w1 (lgC sh 0 false) _).bel (by repeat (first | exact Below.refl _ _ | assumption | apply Below.drew | apply below_drewN | (refine Below.alloc ?_ (by first | exact Nat.le_refl _ | omega | (simp <;> omega)) _) | (refine Below.setCell ?_ (by first | exact Nat.le_refl _ | omega | (simp <;> omega)) _))), by have h := Held.new (w1.alloc (.cells #[.int .i64 sh, .int .i64 0, .bool false] 74)) (lgC sh 0 false) 74; have e : ∀ X, (w1.alloc X).heap.size = w1.heap.size + 1 := fun X => (by simp); rw [e] at h; exact h⟩
    have y1 := Lib.hid (show Out3 w1.heap.size b n e ∧ Out3 (w1.heap.size + 1) b n e ∧ (w1.heap.size ≠ w1.heap.size + 1) ∧ (g1 ≠ w1.heap.size ∧ g2 ≠ w1.heap.size) ∧ (g1 ≠ w1.heap.size + 1 ∧ g2 ≠ w1.heap.size + 1) ∧ qv ≠ w1.heap.size ∧ qv ≠ w1.heap.size + 1 ∧ w.heap.size ≤ w1.heap.size ∧ w.heap.size ≤ w1.heap.size + 1 from ⟨⟨by omega, by omega, by omega⟩, ⟨by omega, by omega, by omega⟩, by omega, ⟨by omega, by omega⟩, ⟨by omega, by omega⟩, by omega, by omega, by omega, by omega⟩)
    have m2 := Lib.hid (m1.bel hbX)
    replace s2 := Lib.hid (s2.out.bel hbX)
    replace pV := Lib.hid (pV.out.bel hbX)
    replace px := Lib.hid px
    replace py := Lib.hid py
    clear m1 hb1 f1 f2 f3 ob on oe hs1 bw1 hbX l1 l2 qv2 b2 hqlt RS NW
    go_upto_region 6 with (fail)
    rw [← eX]
    clear eX
    generalize w1.heap.size + 1 = ry at *
    generalize w1.heap.size = rx at *
    go_wp2_with fail
    go_loopw [13] (fun i v => ∃ (k : Nat) (yn ye : Int) (kn : Bool), k ≤ rows.length ∧ i = .int .i64 (k : Int) ∧ (k ≠ 0 → kn = true) ∧ (-20000000 ≤ yn ∧ yn ≤ 20000000) ∧ (-20000000 ≤ ye ∧ ye ≤ 20000000) ∧ Hid (WdL b n e sh yn ye kn w v) ∧ Hid (StT g1 o1 g2 o2 v) ∧ Hid (Held qv [.int .i64 v0, .int .i64 v1] v) ∧ Hid (Held rx (lgC sh yn kn) v) ∧ Hid (Held ry (lgC sh ye kn) v)) (fun i _ => (rows.length : Int).toNat - (intOf i).toNat)
    case atStart => exact ⟨0, 0, 0, false, by omega, rfl, by simp, by omega, by omega, m2, s2, pV, px, py⟩
    case round =>
      clear m2 s2 pV px py
      obtain ⟨k, yn, ye, kn, hk, rfl, hkn, bn, be, m2, s2, pV, px, py⟩ := hrel
      generalize wr = u0 at *
      by_cases hlt : k < rows.length
      · obtain ⟨tb, off, t, a, no, ea, rfl, htb, ha, hcells⟩ := flow_at ht hlt
        replace hcells := Lib.hid hcells
        obtain ⟨k0, k1, k2, k3⟩ := hcells.out u0 m2.out.bw
        clear htb ht
        have i1 : (k : Int) < rows.length := by omega
        have i2 : IntKind.i64.wrap ((k : Int) + 1) = (k : Int) + 1 := by rw [IntKind.wrap_i64]; omega
        have TH := Lib.hid (fun u m => rthrough g1 o1 c1 g2 o2 c2 a t no ea u m ha)
        have SP := fun u (m : WdL b n e sh yn ye kn w u) => wstep (b := b) (n := n) (e := e) a t no ea u m.o ha hs.1 hs.2 bn be
        have bN := (wd_bd a t no).1
        have bE := (wd_bd a t ea).2
        generalize wdN a t no = N at *
        generalize wdE a t ea = E at *
        have LX := fun u (m : Held rx (lgC sh yn kn) u) => rlgstep_any rx N u m hs.1 hs.2 (by omega) (by omega)
        have LY := fun u (m : Held ry (lgC sh ye kn) u) => rlgstep_any ry E u m hs.1 hs.2 (by omega) (by omega)
        rw [clq_id (n := N) (by omega) (by omega)] at LX
        rw [clq_id (n := E) (by omega) (by omega)] at LY
        have g1z := lg_mid (sh := sh) (kn := kn) (lo := -20000000) (hi := 20000000) bn bN (fun q => bn) (fun _ => .inr trivial) (lo' := -20000000) (hi' := 20000000) bN.1 bN.2 (fun _ => by omega) (fun _ => by omega)
        have g2z := lg_mid (sh := sh) (kn := kn) (lo := -20000000) (hi := 20000000) be bE (fun q => be) (fun _ => .inr trivial) (lo' := -20000000) (hi' := 20000000) bE.1 bE.2 (fun _ => by omega) (fun _ => by omega)
        generalize lgV sh (if kn = true then yn else N) N = YN at *
        generalize lgV sh (if kn = true then ye else E) E = YE at *
        replace SP := Lib.hid SP
        replace LX := Lib.hid LX
        replace LY := Lib.hid LY
        have WW := Lib.hid (fun u (m : WdL b n e sh YN YE true w u) => wwind (b := b) (n := n) (e := e) u m.o)
        go_wp2_with fail
        refine (TH.out _ s2.out).mono ?_
        rintro q w3 ⟨rfl, hb3⟩
        obtain ⟨W, eW, hbW, pp⟩ : ∃ W, W = w3.alloc (.cells #[.int .i64 N, .int .i64 E] 48) ∧ Below w3.heap.size w3 W ∧ Held w3.heap.size [.int .i64 N, .int .i64 E] W := ⟨_, rfl, (by repeat (first | exact Below.refl _ _ | assumption | apply Below.drew | apply below_drewN | (refine Below.alloc ?_ (by first | exact Nat.le_refl _ | omega | (simp <;> omega)) _) | (refine Below.setCell ?_ (by first | exact Nat.le_refl _ | omega | (simp <;> omega)) _))), Held.new w3 [.int .i64 N, .int .i64 E] _⟩
        have hz3 := hb3.size
        replace hb3 := hb3.trans (hbW.mono hb3.size)
        have hf := Lib.hid (show Out3 w3.heap.size b n e ∧ w3.heap.size ≠ rx ∧ w3.heap.size ≠ ry from by
          have a3 := m2.out.o.r.lt; have a4 := m2.out.o.hn.lt; have a5 := m2.out.o.he.lt; have a7 := px.out.lt; have a8 := py.out.lt
          exact ⟨⟨by omega, by omega, by omega⟩, by omega, by omega⟩)
        replace m2 := Lib.hid (m2.out.bel hb3)
        replace s2 := Lib.hid (s2.out.bel hb3)
        replace pV := Lib.hid (pV.out.bel hb3)
        replace px := Lib.hid (px.out.bel hb3)
        replace py := Lib.hid (py.out.bel hb3)
        replace pp := Lib.hid pp
        go_upto_region 10 with (fail)
        rw [← eW]
        clear eW hbW hb3 hz3 k0 k1 k2 k3
        generalize w3.heap.size = s at *
        obtain ⟨k0, k1, k2, k3⟩ := hcells.out W m2.out.bw
        clear hcells TH
        go_wp2_with fail
        refine (SP.out _ m2.out).mono ?_
        rintro q w4 ⟨rfl, o4, l4⟩
        replace m2 := Lib.hid (m2.out.step o4 l4)
        replace s2 := Lib.hid (s2.out.bl l4 x1.out.no x2.out.no)
        replace pV := Lib.hid (pV.out.bl l4 xv.out.no)
        replace px := Lib.hid (px.out.bl l4 y1.out.1.no)
        replace py := Lib.hid (py.out.bl l4 y1.out.2.1.no)
        replace pp := Lib.hid (pp.out.bl l4 hf.out.1.no)
        clear o4 l4 k0 k1 k2 k3 SP
        obtain ⟨p0, _⟩ := pp.out.one 0 rfl
        go_wp2_with fail
        refine (LX.out _ px.out).mono ?_
        rintro q w5 ⟨rfl, h5, b5⟩
        replace m2 := Lib.hid (m2.out.beside b5 y1.out.1 y1.out.2.2.2.2.2.2.2.1)
        replace s2 := Lib.hid (s2.out.beside b5 y1.out.2.2.2.1.1 y1.out.2.2.2.1.2)
        replace pV := Lib.hid (pV.out.beside b5 y1.out.2.2.2.2.2.1)
        replace py := Lib.hid (py.out.beside b5 (Ne.symm y1.out.2.2.1))
        replace pp := Lib.hid (pp.out.beside b5 hf.out.2.1)
        replace px := Lib.hid h5
        clear h5 b5 p0 LX
        obtain ⟨p1, _⟩ := pp.out.one 1 rfl
        go_wp2_with fail
        refine (LY.out _ py.out).mono ?_
        rintro q w6 ⟨rfl, h6, b6⟩
        replace m2 := Lib.hid (m2.out.beside b6 y1.out.2.1 y1.out.2.2.2.2.2.2.2.2)
        replace s2 := Lib.hid (s2.out.beside b6 y1.out.2.2.2.2.1.1 y1.out.2.2.2.2.1.2)
        replace pV := Lib.hid (pV.out.beside b6 y1.out.2.2.2.2.2.2.1)
        replace px := Lib.hid (px.out.beside b6 y1.out.2.2.1)
        replace py := Lib.hid h6
        clear h6 b6 p1 LY pp hf
        go_wp2_with fail
        refine (WW.out _ m2.out).mono ?_
        rintro q w8 ⟨rfl, hb8⟩
        replace m2 := Lib.hid (m2.out.bel hb8)
        replace s2 := Lib.hid (s2.out.bel hb8)
        replace pV := Lib.hid (pV.out.bel hb8)
        replace px := Lib.hid (px.out.bel hb8)
        replace py := Lib.hid (py.out.bel hb8)
        clear hb8 WW
        obtain ⟨l1, _⟩ := px.out.one 1 rfl
        obtain ⟨l2, _⟩ := py.out.one 1 rfl
        go_wp2
        go_roundw
        case rel => exact ⟨k + 1, YN, YE, true, by omega, by first | rfl | go_num, fun _ => rfl, g1z.2.2, g2z.2.2, m2, s2, pV, px, py⟩
        case measure => simp [intOf] <;> omega
      · have hk3 : ¬ (k : Int) < rows.length := by omega
        by_cases h0 : rows.length = 0
        · have h0i : ((rows.length : Int) == 0) = true := by simp [h0]
          go_wp2_with fail
          refine (LV.out _).mono ?_
          rintro e w7 ⟨rfl, hb7⟩
          go_wp2
          go_ret
          exact ⟨rfl, (m2.out.bel hb7).bw⟩
        · obtain rfl := hkn (by omega)
          have h0i : ((rows.length : Int) == 0) = false := by rw [beq_eq_false_iff_ne]; omega
          have FR := Lib.hid (fun u (m : WdL b n e sh yn ye true w u) => wfrom (b := b) (n := n) (e := e) u m.o bn be)
          have AR := Lib.hid (fun u (m : WdL b n e sh yn ye true w u) => wair (b := b) (n := n) (e := e) v0 v1 u m.o bn be)
          have FG := Lib.hid (fun u (m : WdL b n e sh yn ye true w u) => wforget (b := b) (n := n) (e := e) u m.o)
          have WW := Lib.hid (fun u (m : WdL b n e sh 0 0 false w u) => wwind (b := b) (n := n) (e := e) u m.o)
          have RA := Lib.hid (fun u s => rangle04 g1 o1 c1 g2 o2 c2 (-yn) (-ye) u s)
          have H1 := Lib.hid (fun u => rhyp20 yn ye u (by omega) (by omega))
          have b3 := wcl2 v0 yn bn
          have b4 := wcl2 v1 ye be
          have H2 := Lib.hid (fun u => rhyp20 (wcl v0 - yn) (wcl v1 - ye) u ⟨by omega, by omega⟩ ⟨by omega, by omega⟩)
          have C0 := Lib.hid (fun u => rwclip_any v0 u)
          have C1 := Lib.hid (fun u => rwclip_any v1 u)
          have al := anV_lt (-yn) (-ye)
          have w6 : IntKind.i64.wrap (anV (-yn) (-ye) : Int) = (anV (-yn) (-ye) : Int) := by rw [IntKind.wrap_i64]; omega
          have wy : IntKind.i64.wrap (-yn) = -yn := by rw [IntKind.wrap_i64]; omega
          have wz : IntKind.i64.wrap (-ye) = -ye := by rw [IntKind.wrap_i64]; omega
          have u1 : IntKind.i64.wrap (wcl v0 - yn) = wcl v0 - yn := by rw [IntKind.wrap_i64]; omega
          have u2 : IntKind.i64.wrap (wcl v1 - ye) = wcl v1 - ye := by rw [IntKind.wrap_i64]; omega
          generalize anV (-yn) (-ye) = G at *
          generalize rt (sqc yn + sqc ye) = R1 at *
          generalize rt (sqc (wcl v0 - yn) + sqc (wcl v1 - ye)) = R2 at *
          generalize wcl v0 = z0 at *
          generalize wcl v1 = z1 at *
          clear al b3 b4
          go_wp2_with fail
          refine (FR.out _ m2.out).mono ?_
          rintro q w3 ⟨rfl, o3, b3⟩
          replace m2 := Lib.hid (m2.out.tur o3 b3)
          replace s2 := Lib.hid (s2.out.beside b3 x1.out.b x2.out.b)
          replace pV := Lib.hid (pV.out.beside b3 xv.out.b)
          replace px := Lib.hid (px.out.beside b3 y1.out.1.b)
          replace py := Lib.hid (py.out.beside b3 y1.out.2.1.b)
          clear o3 b3 FR
          obtain ⟨c0, _⟩ := pV.out.one 0 rfl
          obtain ⟨c1v, _⟩ := pV.out.one 1 rfl
          go_wp2_with fail
          refine (AR.out _ m2.out).mono ?_
          rintro q w4 ⟨rfl, hb4⟩
          replace m2 := Lib.hid (m2.out.bel hb4)
          replace s2 := Lib.hid (s2.out.bel hb4)
          replace pV := Lib.hid (pV.out.bel hb4)
          replace px := Lib.hid (px.out.bel hb4)
          replace py := Lib.hid (py.out.bel hb4)
          clear hb4 AR c0 c1v
          obtain ⟨l1, _⟩ := px.out.one 1 rfl
          obtain ⟨l2, _⟩ := py.out.one 1 rfl
          obtain ⟨c0, _⟩ := pV.out.one 0 rfl
          obtain ⟨c1v, _⟩ := pV.out.one 1 rfl
          go_wp2_with fail
          refine region_moves (fun u => u.cell? ⟨rx, 1, none⟩ = some (.int .i64 yn) ∧ u.cell? ⟨ry, 1, none⟩ = some (.int .i64 ye) ∧ u.cell? ⟨qv, 0, none⟩ = some (.int .i64 v0) ∧ u.cell? ⟨qv, 1, none⟩ = some (.int .i64 v1)) [] [(.free, 0), (.free, 1), (.free, 2), (.free, 3), (.free, 4), (.take, 5), (.free, 6), (.free, 7), (.take, 8), (.free, 9), (.step, 10), (.free, 11), (.free, 12), (.free, 13), (.free, 14), (.take, 15), (.free, 16), (.take, 17), (.step, 18), (.free, 19), (.free, 20), (.free, 21), (.free, 22), (.free, 23), (.free, 24), (.free, 25), (.free, 26), (.free, 27), (.take, 28), (.free, 30), (.take, 31), (.free, 33), (.take, 34), (.free, 36), (.take, 37), (.step, 29), (.free, 32), (.step, 35), (.free, 38), (.step, 39), (.free, 40), (.free, 41)] _ (by kernel_rfl) (by kernel_rfl) (by kernel_rfl) (by kernel_rfl) (by decide) rfl (fun _ _ _ _ _ h => h) ?_
          simp only [List.filterMap_cons, List.filterMap_nil, List.getElem?_toArray, List.getElem?_cons_zero, List.getElem?_cons_succ, Option.map_some]
          iterate 5
            first
              | (refine mv_free ?_ (Or.inl ⟨by rfl, ?_⟩) (⟨l1, l2, c0, c1v⟩) ?_
                 rotate_left 1
                 · intro u
                   go_simp
                   try simp only [d1]
                   try simp only [d2]
                   try simp only [d3]
                   try simp only [d4]
                   try simp only [d5]
                   try with_reducible rfl
                 simp only [Act.put, List.setIfInBounds_toArray, List.set_cons_zero, List.set_cons_succ])
              | (refine mv_free _ (Or.inr ⟨by rfl, rfl⟩) (⟨l1, l2, c0, c1v⟩) ?_
                 simp only [Act.put, List.setIfInBounds_toArray, List.set_cons_zero, List.set_cons_succ])
          iterate 1
            first
              | (refine mv_take ?_ (Or.inl ⟨by rfl, ?_⟩) (⟨l1, l2, c0, c1v⟩) ?_
                 rotate_left 1
                 · intro u hu
                   (try dsimp only at hu)
                   go_simp
                   try with_reducible rfl
                 simp only [Act.put, List.setIfInBounds_toArray, List.set_cons_zero, List.set_cons_succ])
              | (refine mv_take _ (Or.inr ⟨by rfl, rfl⟩) (⟨l1, l2, c0, c1v⟩) ?_
                 simp only [Act.put, List.setIfInBounds_toArray, List.set_cons_zero, List.set_cons_succ])
          iterate 2
            first
              | (refine mv_free ?_ (Or.inl ⟨by rfl, ?_⟩) (⟨l1, l2, c0, c1v⟩) ?_
                 rotate_left 1
                 · intro u
                   go_simp
                   try simp only [d1]
                   try simp only [d2]
                   try simp only [d3]
                   try simp only [d4]
                   try simp only [d5]
                   try with_reducible rfl
                 simp only [Act.put, List.setIfInBounds_toArray, List.set_cons_zero, List.set_cons_succ])
              | (refine mv_free _ (Or.inr ⟨by rfl, rfl⟩) (⟨l1, l2, c0, c1v⟩) ?_
                 simp only [Act.put, List.setIfInBounds_toArray, List.set_cons_zero, List.set_cons_succ])
          iterate 1
            first
              | (refine mv_take ?_ (Or.inl ⟨by rfl, ?_⟩) (⟨l1, l2, c0, c1v⟩) ?_
                 rotate_left 1
                 · intro u hu
                   (try dsimp only at hu)
                   go_simp
                   try with_reducible rfl
                 simp only [Act.put, List.setIfInBounds_toArray, List.set_cons_zero, List.set_cons_succ])
              | (refine mv_take _ (Or.inr ⟨by rfl, rfl⟩) (⟨l1, l2, c0, c1v⟩) ?_
                 simp only [Act.put, List.setIfInBounds_toArray, List.set_cons_zero, List.set_cons_succ])
          iterate 1
            first
              | (refine mv_free ?_ (Or.inl ⟨by rfl, ?_⟩) (⟨l1, l2, c0, c1v⟩) ?_
                 rotate_left 1
                 · intro u
                   go_simp
                   try simp only [d1]
                   try simp only [d2]
                   try simp only [d3]
                   try simp only [d4]
                   try simp only [d5]
                   try with_reducible rfl
                 simp only [Act.put, List.setIfInBounds_toArray, List.set_cons_zero, List.set_cons_succ])
              | (refine mv_free _ (Or.inr ⟨by rfl, rfl⟩) (⟨l1, l2, c0, c1v⟩) ?_
                 simp only [Act.put, List.setIfInBounds_toArray, List.set_cons_zero, List.set_cons_succ])
          refine mv_step (fun K hK => ?_)
          go_simp
          refine (RA.out _ (by first | exact s2.out | exact s2.out.bel (Below.refl _ _).drew)).mono ?_
          rintro q w5 ⟨rfl, hb5⟩
          replace m2 := Lib.hid (show WdL b n e sh yn ye true w w5 from by first | exact m2.out.bel hb5 | exact (m2.out.bel (Below.refl _ _).drew).bel hb5)
          replace pV := Lib.hid (show Held qv [.int .i64 v0, .int .i64 v1] w5 from by first | exact pV.out.bel hb5 | exact pV.out.drew.bel hb5)
          replace px := Lib.hid (show Held rx (lgC sh yn true) w5 from by first | exact px.out.bel hb5 | exact px.out.drew.bel hb5)
          replace py := Lib.hid (show Held ry (lgC sh ye true) w5 from by first | exact py.out.bel hb5 | exact py.out.drew.bel hb5)
          clear hb5 l1 l2 c0 c1v
          obtain ⟨l1, _⟩ := px.out.one 1 rfl
          obtain ⟨l2, _⟩ := py.out.one 1 rfl
          obtain ⟨c0, _⟩ := pV.out.one 0 rfl
          obtain ⟨c1v, _⟩ := pV.out.one 1 rfl
          go_wp2_with fail
          refine hK.out _ _ _ (fun u hu => hu) (⟨l1, l2, c0, c1v⟩) ?_
          clear hK K
          iterate 4
            first
              | (refine mv_free ?_ (Or.inl ⟨by rfl, ?_⟩) (⟨l1, l2, c0, c1v⟩) ?_
                 rotate_left 1
                 · intro u
                   go_simp
                   try simp only [d1]
                   try simp only [d2]
                   try simp only [d3]
                   try simp only [d4]
                   try simp only [d5]
                   try with_reducible rfl
                 simp only [Act.put, List.setIfInBounds_toArray, List.set_cons_zero, List.set_cons_succ])
              | (refine mv_free _ (Or.inr ⟨by rfl, rfl⟩) (⟨l1, l2, c0, c1v⟩) ?_
                 simp only [Act.put, List.setIfInBounds_toArray, List.set_cons_zero, List.set_cons_succ])
          iterate 1
            first
              | (refine mv_take ?_ (Or.inl ⟨by rfl, ?_⟩) (⟨l1, l2, c0, c1v⟩) ?_
                 rotate_left 1
                 · intro u hu
                   (try dsimp only at hu)
                   go_simp
                   try with_reducible rfl
                 simp only [Act.put, List.setIfInBounds_toArray, List.set_cons_zero, List.set_cons_succ])
              | (refine mv_take _ (Or.inr ⟨by rfl, rfl⟩) (⟨l1, l2, c0, c1v⟩) ?_
                 simp only [Act.put, List.setIfInBounds_toArray, List.set_cons_zero, List.set_cons_succ])
          iterate 1
            first
              | (refine mv_free ?_ (Or.inl ⟨by rfl, ?_⟩) (⟨l1, l2, c0, c1v⟩) ?_
                 rotate_left 1
                 · intro u
                   go_simp
                   try simp only [d1]
                   try simp only [d2]
                   try simp only [d3]
                   try simp only [d4]
                   try simp only [d5]
                   try with_reducible rfl
                 simp only [Act.put, List.setIfInBounds_toArray, List.set_cons_zero, List.set_cons_succ])
              | (refine mv_free _ (Or.inr ⟨by rfl, rfl⟩) (⟨l1, l2, c0, c1v⟩) ?_
                 simp only [Act.put, List.setIfInBounds_toArray, List.set_cons_zero, List.set_cons_succ])
          iterate 1
            first
              | (refine mv_take ?_ (Or.inl ⟨by rfl, ?_⟩) (⟨l1, l2, c0, c1v⟩) ?_
                 rotate_left 1
                 · intro u hu
                   (try dsimp only at hu)
                   go_simp
                   try with_reducible rfl
                 simp only [Act.put, List.setIfInBounds_toArray, List.set_cons_zero, List.set_cons_succ])
              | (refine mv_take _ (Or.inr ⟨by rfl, rfl⟩) (⟨l1, l2, c0, c1v⟩) ?_
                 simp only [Act.put, List.setIfInBounds_toArray, List.set_cons_zero, List.set_cons_succ])
          refine mv_step (fun K hK => ?_)
          go_simp
          refine (H1.out _).mono ?_
          rintro q w6 ⟨rfl, rfl⟩
          go_wp2_with fail
          refine hK.out _ _ _ (fun u hu => hu) (⟨l1, l2, c0, c1v⟩) ?_
          clear hK K
          iterate 9
            first
              | (refine mv_free ?_ (Or.inl ⟨by rfl, ?_⟩) (⟨l1, l2, c0, c1v⟩) ?_
                 rotate_left 1
                 · intro u
                   go_simp
                   try simp only [d1]
                   try simp only [d2]
                   try simp only [d3]
                   try simp only [d4]
                   try simp only [d5]
                   try with_reducible rfl
                 simp only [Act.put, List.setIfInBounds_toArray, List.set_cons_zero, List.set_cons_succ])
              | (refine mv_free _ (Or.inr ⟨by rfl, rfl⟩) (⟨l1, l2, c0, c1v⟩) ?_
                 simp only [Act.put, List.setIfInBounds_toArray, List.set_cons_zero, List.set_cons_succ])
          iterate 1
            first
              | (refine mv_take ?_ (Or.inl ⟨by rfl, ?_⟩) (⟨l1, l2, c0, c1v⟩) ?_
                 rotate_left 1
                 · intro u hu
                   (try dsimp only at hu)
                   go_simp
                   try with_reducible rfl
                 simp only [Act.put, List.setIfInBounds_toArray, List.set_cons_zero, List.set_cons_succ])
              | (refine mv_take _ (Or.inr ⟨by rfl, rfl⟩) (⟨l1, l2, c0, c1v⟩) ?_
                 simp only [Act.put, List.setIfInBounds_toArray, List.set_cons_zero, List.set_cons_succ])
          iterate 1
            first
              | (refine mv_free ?_ (Or.inl ⟨by rfl, ?_⟩) (⟨l1, l2, c0, c1v⟩) ?_
                 rotate_left 1
                 · intro u
                   go_simp
                   try simp only [d1]
                   try simp only [d2]
                   try simp only [d3]
                   try simp only [d4]
                   try simp only [d5]
                   try with_reducible rfl
                 simp only [Act.put, List.setIfInBounds_toArray, List.set_cons_zero, List.set_cons_succ])
              | (refine mv_free _ (Or.inr ⟨by rfl, rfl⟩) (⟨l1, l2, c0, c1v⟩) ?_
                 simp only [Act.put, List.setIfInBounds_toArray, List.set_cons_zero, List.set_cons_succ])
          iterate 1
            first
              | (refine mv_take ?_ (Or.inl ⟨by rfl, ?_⟩) (⟨l1, l2, c0, c1v⟩) ?_
                 rotate_left 1
                 · intro u hu
                   (try dsimp only at hu)
                   go_simp
                   try with_reducible rfl
                 simp only [Act.put, List.setIfInBounds_toArray, List.set_cons_zero, List.set_cons_succ])
              | (refine mv_take _ (Or.inr ⟨by rfl, rfl⟩) (⟨l1, l2, c0, c1v⟩) ?_
                 simp only [Act.put, List.setIfInBounds_toArray, List.set_cons_zero, List.set_cons_succ])
          iterate 1
            first
              | (refine mv_free ?_ (Or.inl ⟨by rfl, ?_⟩) (⟨l1, l2, c0, c1v⟩) ?_
                 rotate_left 1
                 · intro u
                   go_simp
                   try simp only [d1]
                   try simp only [d2]
                   try simp only [d3]
                   try simp only [d4]
                   try simp only [d5]
                   try with_reducible rfl
                 simp only [Act.put, List.setIfInBounds_toArray, List.set_cons_zero, List.set_cons_succ])
              | (refine mv_free _ (Or.inr ⟨by rfl, rfl⟩) (⟨l1, l2, c0, c1v⟩) ?_
                 simp only [Act.put, List.setIfInBounds_toArray, List.set_cons_zero, List.set_cons_succ])
          iterate 1
            first
              | (refine mv_take ?_ (Or.inl ⟨by rfl, ?_⟩) (⟨l1, l2, c0, c1v⟩) ?_
                 rotate_left 1
                 · intro u hu
                   (try dsimp only at hu)
                   go_simp
                   try with_reducible rfl
                 simp only [Act.put, List.setIfInBounds_toArray, List.set_cons_zero, List.set_cons_succ])
              | (refine mv_take _ (Or.inr ⟨by rfl, rfl⟩) (⟨l1, l2, c0, c1v⟩) ?_
                 simp only [Act.put, List.setIfInBounds_toArray, List.set_cons_zero, List.set_cons_succ])
          iterate 1
            first
              | (refine mv_free ?_ (Or.inl ⟨by rfl, ?_⟩) (⟨l1, l2, c0, c1v⟩) ?_
                 rotate_left 1
                 · intro u
                   go_simp
                   try simp only [d1]
                   try simp only [d2]
                   try simp only [d3]
                   try simp only [d4]
                   try simp only [d5]
                   try with_reducible rfl
                 simp only [Act.put, List.setIfInBounds_toArray, List.set_cons_zero, List.set_cons_succ])
              | (refine mv_free _ (Or.inr ⟨by rfl, rfl⟩) (⟨l1, l2, c0, c1v⟩) ?_
                 simp only [Act.put, List.setIfInBounds_toArray, List.set_cons_zero, List.set_cons_succ])
          iterate 1
            first
              | (refine mv_take ?_ (Or.inl ⟨by rfl, ?_⟩) (⟨l1, l2, c0, c1v⟩) ?_
                 rotate_left 1
                 · intro u hu
                   (try dsimp only at hu)
                   go_simp
                   try with_reducible rfl
                 simp only [Act.put, List.setIfInBounds_toArray, List.set_cons_zero, List.set_cons_succ])
              | (refine mv_take _ (Or.inr ⟨by rfl, rfl⟩) (⟨l1, l2, c0, c1v⟩) ?_
                 simp only [Act.put, List.setIfInBounds_toArray, List.set_cons_zero, List.set_cons_succ])
          refine mv_step (fun K hK => ?_)
          go_simp
          refine (C0.out _).mono ?_
          rintro q w6 ⟨rfl, rfl⟩
          go_wp2_with fail
          refine hK.out _ _ _ (fun u hu => hu) (⟨l1, l2, c0, c1v⟩) ?_
          clear hK K
          iterate 1
            first
              | (refine mv_free ?_ (Or.inl ⟨by rfl, ?_⟩) (⟨l1, l2, c0, c1v⟩) ?_
                 rotate_left 1
                 · intro u
                   go_simp
                   try simp only [d1]
                   try simp only [d2]
                   try simp only [d3]
                   try simp only [d4]
                   try simp only [d5]
                   try with_reducible rfl
                 simp only [Act.put, List.setIfInBounds_toArray, List.set_cons_zero, List.set_cons_succ])
              | (refine mv_free _ (Or.inr ⟨by rfl, rfl⟩) (⟨l1, l2, c0, c1v⟩) ?_
                 simp only [Act.put, List.setIfInBounds_toArray, List.set_cons_zero, List.set_cons_succ])
          refine mv_step (fun K hK => ?_)
          go_simp
          refine (C1.out _).mono ?_
          rintro q w6 ⟨rfl, rfl⟩
          go_wp2_with fail
          refine hK.out _ _ _ (fun u hu => hu) (⟨l1, l2, c0, c1v⟩) ?_
          clear hK K
          iterate 1
            first
              | (refine mv_free ?_ (Or.inl ⟨by rfl, ?_⟩) (⟨l1, l2, c0, c1v⟩) ?_
                 rotate_left 1
                 · intro u
                   go_simp
                   try simp only [d1]
                   try simp only [d2]
                   try simp only [d3]
                   try simp only [d4]
                   try simp only [d5]
                   try with_reducible rfl
                 simp only [Act.put, List.setIfInBounds_toArray, List.set_cons_zero, List.set_cons_succ])
              | (refine mv_free _ (Or.inr ⟨by rfl, rfl⟩) (⟨l1, l2, c0, c1v⟩) ?_
                 simp only [Act.put, List.setIfInBounds_toArray, List.set_cons_zero, List.set_cons_succ])
          refine mv_step (fun K hK => ?_)
          go_simp
          refine (H2.out _).mono ?_
          rintro q w6 ⟨rfl, rfl⟩
          go_wp2_with fail
          refine hK.out _ _ _ (fun u hu => hu) (⟨l1, l2, c0, c1v⟩) ?_
          clear hK K
          iterate 2
            first
              | (refine mv_free ?_ (Or.inl ⟨by rfl, ?_⟩) (⟨l1, l2, c0, c1v⟩) ?_
                 rotate_left 1
                 · intro u
                   go_simp
                   try simp only [d1]
                   try simp only [d2]
                   try simp only [d3]
                   try simp only [d4]
                   try simp only [d5]
                   try with_reducible rfl
                 simp only [Act.put, List.setIfInBounds_toArray, List.set_cons_zero, List.set_cons_succ])
              | (refine mv_free _ (Or.inr ⟨by rfl, rfl⟩) (⟨l1, l2, c0, c1v⟩) ?_
                 simp only [Act.put, List.setIfInBounds_toArray, List.set_cons_zero, List.set_cons_succ])
          refine mv_done ?_
          clear l1 l2 c0 c1v
          go_wp2_with fail
          refine (FG.out _ (by first | exact m2.out | exact m2.out.bel (Below.refl _ _).drew)).mono ?_
          rintro q w7 ⟨rfl, o7, l7⟩
          replace m2 := Lib.hid (show WdL b n e sh 0 0 false w w7 from by first | exact m2.out.step o7 l7 | exact (m2.out.bel (Below.refl _ _).drew).step o7 l7)
          clear o7 l7
          go_wp2_with fail
          refine (WW.out _ m2.out).mono ?_
          rintro q w8 ⟨rfl, hb8⟩
          replace m2 := Lib.hid (m2.out.bel hb8)
          clear hb8
          go_wp2_with fail
          refine (LV.out _).mono ?_
          rintro e w9 ⟨rfl, hb9⟩
          go_wp2
          go_ret
          exact ⟨rfl, (m2.out.bel hb9).bw⟩
  · have s1 : sh < 0 ∨ 16 < sh := by omega
    replace hbV := Lib.hid hbV
    go_enter Try.func9, Try.ntmps9
    go_upto_region 1 with (fail)
    rw [← eV]
    clear eV
    obtain ⟨qv, hq⟩ : ∃ q, q = w.heap.size := ⟨_, rfl⟩
    rw [← hq] at pV hqlt ⊢
    replace hq := Lib.hid hq
    replace pV := Lib.hid pV
    rcases s1 with s1 | s1
    · go_wp2_with fail
      refine (LV.out _).mono ?_
      rintro e w7 ⟨rfl, hb7⟩
      go_wp2
      go_ret
      exact ⟨rfl, by rw [hq.out] at hqlt; exact hbV.out.trans (hb7.mono (Nat.le_of_lt hqlt))⟩
    · have s3 : ¬ sh < 0 := by omega
      go_wp2_with fail
      refine (LV.out _).mono ?_
      rintro e w7 ⟨rfl, hb7⟩
      go_wp2
      go_ret
      exact ⟨rfl, by rw [hq.out] at hqlt; exact hbV.out.trans (hb7.mono (Nat.le_of_lt hqlt))⟩
end Go.Proofs.Ytiibgblpbjdpaaa
