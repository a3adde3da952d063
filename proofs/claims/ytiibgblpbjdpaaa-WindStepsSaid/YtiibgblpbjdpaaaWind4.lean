/- The law WindBetween; walked. -/
import Derived.Test.YtiibgblpbjdpaaaWind3
import Derived.Deep.Cut
namespace Go.Proofs.Ytiibgblpbjdpaaa
open Go.ChangeShapes Go.WideShapes Go.ChangeAt Go.RowKit
set_option linter.unusedVariables false
set_option linter.unusedSimpArgs false
theorem flow_at {w : World} {t : Option Addr} {rows : List (List Value)} (h : Tab [some .i64, some .u16, some .i64, some .i64] w t rows) {i : Nat} (hi : i < rows.length) :
    ∃ tb off T a no ea, t = some ⟨tb, off, none⟩ ∧ tb < w.heap.size ∧ a < 65536 ∧ ∀ v, Below w.heap.size w v → v.cell? ⟨tb, off + i * 4, none⟩ = some (.int .i64 T) ∧ v.cell? ⟨tb, off + i * 4 + 1, none⟩ = some (.int .u16 ((a : Nat) : Int)) ∧ v.cell? ⟨tb, off + i * 4 + 2, none⟩ = some (.int .i64 no) ∧ v.cell? ⟨tb, off + i * 4 + 3, none⟩ = some (.int .i64 ea) := by
  obtain ⟨tb, off, r, rfl, htb, hr, hfl, hcell⟩ := h.at hi
  obtain ⟨x, _, rfl, _, hfl⟩ := hfl
  obtain ⟨y, _, rfl, wy, hfl⟩ := hfl
  obtain ⟨z, _, rfl, _, hfl⟩ := hfl
  obtain ⟨u, _, rfl, _, hfl⟩ := hfl
  have by1 := u16_bd wy
  obtain ⟨n, rfl⟩ := Int.eq_ofNat_of_zero_le by1.1
  exact ⟨tb, off, x, n, z, u, rfl, htb, by omega, fun v hv => ⟨(bc hv htb).trans (hcell 0 _ rfl), (bc hv htb).trans (hcell 1 _ rfl), (bc hv htb).trans (hcell 2 _ rfl), (bc hv htb).trans (hcell 3 _ rfl)⟩⟩
/-- Another block is not one of an estimator's. -/
structure Out3 (q b n e : Nat) : Prop where
  b : q ≠ b
  n : q ≠ n
  e : q ≠ e
theorem Out3.no {q b n e : Nat} (h : Out3 q b n e) : q ∉ [b, n, e] := by simp; exact ⟨h.b, h.n, h.e⟩
theorem WdL.aside {b n e q : Nat} {sh yn ye : Int} {kn : Bool} {w u u' : World} (h : WdL b n e sh yn ye kn w u) (k : Only q u u') (x : Out3 q b n e) (hq : w.heap.size ≤ q) : WdL b n e sh yn ye kn w u' :=
  ⟨⟨h.o.r.beside (.of_only k) (Ne.symm x.b), h.o.hn.only k (Ne.symm x.n), h.o.he.only k (Ne.symm x.e), h.o.bn, h.o.be, h.o.ne⟩, h.bw.trans (k.below hq), h.hb, h.hn, h.he⟩
theorem lg_mid {sh y N lo hi : Int} {kn : Bool} (y1 : -20000000 ≤ y ∧ y ≤ 20000000) (n1 : -20000000 ≤ N ∧ N ≤ 20000000) (hk : kn = true → lo ≤ y ∧ y ≤ hi) (l : kn = true → lo ≤ N ∨ True) {lo' hi' : Int} (h1 : lo' ≤ N) (h2 : N ≤ hi') (h3 : kn = true → lo' ≤ lo) (h4 : kn = true → hi ≤ hi') :
    lo' ≤ lgV sh (if kn = true then y else N) N ∧ lgV sh (if kn = true then y else N) N ≤ hi' ∧ -20000000 ≤ lgV sh (if kn = true then y else N) N ∧ lgV sh (if kn = true then y else N) N ≤ 20000000 := by
  cases kn
  · rw [if_neg (by simp), lgV_self]
    exact ⟨h1, h2, n1.1, n1.2⟩
  · rw [if_pos rfl]
    have k := hk rfl
    have a := h3 rfl
    have c := h4 rfl
    have m := lgV_between sh y N ⟨by omega, by omega⟩
    rcases Int.le_total y N with q | q
    · have := m.1 q; omega
    · have := m.2 q; omega
set_option maxRecDepth 100000 in
set_option maxHeartbeats 8000000 in
theorem law_WindBetween (sh : Int) (tp : Option Addr) (cap : Nat) (rows : List (List Value)) (w : World) (ht : Tab [some .i64, some .u16, some .i64, some .i64] w tp rows) (hl : rows.length ≤ maxLen) : Calls Try.prog 10 #[.int .i64 sh, .slice tp rows.length cap] w fun e w' => e = .returned (.bool true) ∧ Below w.heap.size w w' := by
  unfold maxLen at hl
  have LV := Lib.hid (fun u => lives20 u)
  by_cases hs : 0 ≤ sh ∧ sh ≤ 16
  · have NW := Lib.hid (wnewL sh w w (Below.refl _ _) hs.1 hs.2)
    have RS := Lib.hid (fun u (k : Below w.heap.size w u) => rsteps04 u)
    by_cases hbig : 30 < rows.length
    · clear RS
      go_enter Try.func10, Try.ntmps10
      go_wp2_with fail
      refine NW.out.mono ?_
      rintro e w1 ⟨b, n, e, rfl, m1, -, -, -, -⟩
      replace m1 := Lib.hid m1
      go_wp2_with fail
      refine (LV.out _).mono ?_
      rintro e w7 ⟨rfl, hb7⟩
      go_wp2
      go_ret
      exact ⟨rfl, (m1.out.bel hb7).bw⟩
    · go_enter Try.func10, Try.ntmps10
      go_wp2_with fail
      refine NW.out.mono ?_
      rintro e w1 ⟨b, n, e, rfl, m1, -, -, -, -⟩
      have ob := m1.o.r.lt
      have on := m1.o.hn.lt
      have oe := m1.o.he.lt
      replace m1 := Lib.hid m1
      go_wp2_with fail
      refine (RS.out _ m1.out.bw).mono ?_
      rintro q w2 ⟨x, y, rfl, hD, hb2⟩
      obtain ⟨g1, o1, c1, g2, o2, c2, rfl, rfl, q1, q2, s2⟩ := hD.st
      have m2 := m1.out.bel hb2
      have hs2 := hb2.size
      obtain ⟨V, eV, hbV, pl, ph⟩ : ∃ V, V = (w2.alloc (.cells #[.int .i64 0, .int .i64 0] 48)).alloc (.cells #[.int .i64 0, .int .i64 0] 48) ∧ Below w2.heap.size w2 V ∧ Held w2.heap.size [.int .i64 0, .int .i64 0] V ∧ Held (w2.heap.size + 1) [.int .i64 0, .int .i64 0] V :=
        ⟨_, rfl, (by repeat (first | exact Below.refl _ _ | assumption | apply Below.drew | apply below_drewN | (refine Below.alloc ?_ (by first | exact Nat.le_refl _ | omega | (simp <;> omega)) _) | (refine Below.setCell ?_ (by first | exact Nat.le_refl _ | omega | (simp <;> omega)) _))), (Held.new w2 [.int .i64 0, .int .i64 0] _).bel (by repeat (first | exact Below.refl _ _ | assumption | apply Below.drew | apply below_drewN | (refine Below.alloc ?_ (by first | exact Nat.le_refl _ | omega | (simp <;> omega)) _) | (refine Below.setCell ?_ (by first | exact Nat.le_refl _ | omega | (simp <;> omega)) _))), by have := Held.new (w2.alloc (.cells #[.int .i64 0, .int .i64 0] 48)) [.int .i64 0, .int .i64 0] 48; simpa using this⟩
      have x1 := Lib.hid (show Out3 g1 b n e from ⟨by omega, by omega, by omega⟩)
      have x2 := Lib.hid (show Out3 g2 b n e from ⟨by omega, by omega, by omega⟩)
      have x3 := Lib.hid (show Out3 w2.heap.size b n e from ⟨by omega, by omega, by omega⟩)
      have x4 := Lib.hid (show Out3 (w2.heap.size + 1) b n e from ⟨by omega, by omega, by omega⟩)
      have s3 := Lib.hid (s2.bel hbV)
      have m3 := Lib.hid (m2.bel hbV)
      have y1 := Lib.hid (show g1 ≠ w2.heap.size ∧ g1 ≠ w2.heap.size + 1 ∧ g2 ≠ w2.heap.size ∧ g2 ≠ w2.heap.size + 1 ∧ w2.heap.size ≠ w2.heap.size + 1 ∧ w.heap.size ≤ w2.heap.size ∧ w.heap.size ≤ w2.heap.size + 1 from by have a1 := s2.l1; have a2 := s2.l2; have a3 := m2.bw.size; omega)
      clear s2 m2 hbV hD hb2 q1 q2 ob on oe hs2 m1
      replace pl := Lib.hid pl
      replace ph := Lib.hid ph
      go_upto_region 6 with (fail)
      rw [← eV]
      clear eV
      generalize w2.heap.size + 1 = qh at *
      generalize w2.heap.size = ql at *
      clear w2
      go_wp2_with fail
      go_loopw [11] (fun i v => ∃ (k : Nat) (yn ye lx ly hx hy : Int) (kn : Bool), k ≤ rows.length ∧ i = .int .i64 (k : Int) ∧ (k = 0 → kn = false) ∧ (kn = true → lx ≤ yn ∧ yn ≤ hx ∧ ly ≤ ye ∧ ye ≤ hy) ∧ (k ≠ 0 → kn = true) ∧ (-20000000 ≤ yn ∧ yn ≤ 20000000) ∧ (-20000000 ≤ ye ∧ ye ≤ 20000000) ∧ Hid (WdL b n e sh yn ye kn w v) ∧ Hid (StT g1 o1 g2 o2 v) ∧ Hid (Held ql [.int .i64 lx, .int .i64 ly] v) ∧ Hid (Held qh [.int .i64 hx, .int .i64 hy] v)) (fun i _ => (rows.length : Int).toNat - (intOf i).toNat)
      case atStart => exact ⟨0, 0, 0, 0, 0, 0, 0, false, by omega, rfl, fun _ => rfl, by simp, by simp, by omega, by omega, m3, s3, pl, ph⟩
      case round =>
        clear m3 s3 pl ph
        obtain ⟨k, yn, ye, lx, ly, hx, hy, kn, hk, rfl, h0, hin, h1, bn, be, m3, s3, pl, ph⟩ := hrel
        generalize wr = v0 at *
        by_cases hlt : k < rows.length
        · obtain ⟨tb, off, t, a, no, ea, rfl, htb, ha, hcells⟩ := flow_at ht hlt
          have hcells := Lib.hid hcells
          obtain ⟨k0, k1, k2, k3⟩ := hcells.out v0 m3.out.bw
          have TH := Lib.hid (fun u m => rthrough g1 o1 c1 g2 o2 c2 a t no ea u m ha)
          have SP := fun u (m : WdL b n e sh yn ye kn w u) => wstep (b := b) (n := n) (e := e) a t no ea u m.o ha hs.1 hs.2 bn be
          have bN := (wd_bd a t no).1
          have bE := (wd_bd a t ea).2
          generalize wdN a t no = N at *
          generalize wdE a t ea = E at *
          replace SP := Lib.hid SP
          have i1 : (k : Int) < rows.length := by omega
          have i2 : IntKind.i64.wrap ((k : Int) + 1) = (k : Int) + 1 := by rw [IntKind.wrap_i64]; omega
          replace htb := Lib.hid htb
          clear ht
          go_wp2_with fail
          refine (TH.out _ s3.out).mono ?_
          rintro q w2 ⟨rfl, hb2⟩
          obtain ⟨W, eW, hbW, pp⟩ : ∃ W, W = w2.alloc (.cells #[.int .i64 N, .int .i64 E] 48) ∧ Below w2.heap.size w2 W ∧ Held w2.heap.size [.int .i64 N, .int .i64 E] W := ⟨_, rfl, (by repeat (first | exact Below.refl _ _ | assumption | apply Below.drew | apply below_drewN | (refine Below.alloc ?_ (by first | exact Nat.le_refl _ | omega | (simp <;> omega)) _) | (refine Below.setCell ?_ (by first | exact Nat.le_refl _ | omega | (simp <;> omega)) _))), Held.new w2 [.int .i64 N, .int .i64 E] _⟩
          have hz2 := hb2.size
          replace hb2 := hb2.trans (hbW.mono hb2.size)
          have hq := Lib.hid (show w2.heap.size ≠ ql ∧ w2.heap.size ≠ qh ∧ Out3 w2.heap.size b n e ∧ w.heap.size ≤ w2.heap.size from by
            have a1 := pl.out.lt; have a2 := ph.out.lt; have a3 := m3.out.o.r.lt; have a4 := m3.out.o.hn.lt; have a5 := m3.out.o.he.lt; have a6 := m3.out.bw.size
            exact ⟨by omega, by omega, ⟨by omega, by omega, by omega⟩, by omega⟩)
          replace m3 := Lib.hid (m3.out.bel hb2)
          replace s3 := Lib.hid (s3.out.bel hb2)
          replace pl := Lib.hid (pl.out.bel hb2)
          replace ph := Lib.hid (ph.out.bel hb2)
          replace pp := Lib.hid pp
          go_upto_region 10 with (fail)
          rw [← eW]
          clear eW hbW hb2 hz2 k0 k1 k2 k3
          generalize w2.heap.size = s at *
          clear w2
          by_cases hk0 : k = 0
          · subst hk0
            have hk1 : (((0 : Nat) : Int) == 0) = true := rfl
            have hkn := h0 rfl
            subst hkn
            obtain ⟨l0, l2⟩ := pl.out.one 0 rfl
            obtain ⟨l1, l3⟩ := pl.out.one 1 rfl
            obtain ⟨h0c, h2c⟩ := ph.out.one 0 rfl
            obtain ⟨h1c, h3c⟩ := ph.out.one 1 rfl
            obtain ⟨p0, _⟩ := pp.out.one 0 rfl
            obtain ⟨p1, _⟩ := pp.out.one 1 rfl
            go_upto_region 12 with (fail)
            obtain ⟨W1, eW1, oW1⟩ : ∃ Z, Z = (W.setCell ⟨ql, 0, none⟩ (.int .i64 N)).setCell ⟨ql, 1, none⟩ (.int .i64 E) ∧ Only ql W Z := ⟨_, rfl, ((Only.refl ql W).setCell (p := ⟨ql, 0, none⟩) _).setCell (p := ⟨ql, 1, none⟩) _⟩
            replace pl := Lib.hid (show Held ql [.int .i64 N, .int .i64 E] W1 from by rw [eW1]; exact (pl.out.set 0 _ (by simp)).set 1 _ (by simp))
            replace m3 := Lib.hid (m3.out.aside oW1 x3.out y1.out.2.2.2.2.2.1)
            replace s3 := Lib.hid (s3.out.beside (.of_only oW1) y1.out.1 y1.out.2.2.1)
            replace pp := Lib.hid (pp.out.only oW1 hq.out.1)
            replace ph := Lib.hid (ph.out.only oW1 (Ne.symm y1.out.2.2.2.2.1))
            rw [← eW1]
            clear eW1 oW1
            clear l0 l1 l2 l3 h0c h1c h2c h3c p0 p1
            obtain ⟨l0, l2⟩ := pl.out.one 0 rfl
            obtain ⟨l1, l3⟩ := pl.out.one 1 rfl
            obtain ⟨h0c, h2c⟩ := ph.out.one 0 rfl
            obtain ⟨h1c, h3c⟩ := ph.out.one 1 rfl
            obtain ⟨p0, _⟩ := pp.out.one 0 rfl
            obtain ⟨p1, _⟩ := pp.out.one 1 rfl
            go_upto_region 13 with (fail)
            obtain ⟨W2, eW2, oW2⟩ : ∃ Z, Z = (W1.setCell ⟨qh, 0, none⟩ (.int .i64 N)).setCell ⟨qh, 1, none⟩ (.int .i64 E) ∧ Only qh W1 Z := ⟨_, rfl, ((Only.refl qh W1).setCell (p := ⟨qh, 0, none⟩) _).setCell (p := ⟨qh, 1, none⟩) _⟩
            replace ph := Lib.hid (show Held qh [.int .i64 N, .int .i64 E] W2 from by rw [eW2]; exact (ph.out.set 0 _ (by simp)).set 1 _ (by simp))
            replace m3 := Lib.hid (m3.out.aside oW2 x4.out y1.out.2.2.2.2.2.2)
            replace s3 := Lib.hid (s3.out.beside (.of_only oW2) y1.out.2.1 y1.out.2.2.2.1)
            replace pp := Lib.hid (pp.out.only oW2 hq.out.2.1)
            replace pl := Lib.hid (pl.out.only oW2 y1.out.2.2.2.2.1)
            rw [← eW2]
            clear eW2 oW2
            clear hin
            clear l0 l1 l2 l3 h0c h1c h2c h3c p0 p1
            obtain ⟨lx3, ex3⟩ : ∃ z, z = N := ⟨_, rfl⟩
            obtain ⟨ly3, ey3⟩ : ∃ z, z = E := ⟨_, rfl⟩
            obtain ⟨hx3, ex4⟩ : ∃ z, z = N := ⟨_, rfl⟩
            obtain ⟨hy3, ey4⟩ : ∃ z, z = E := ⟨_, rfl⟩
            replace pl := Lib.hid (show Held ql [.int .i64 lx3, .int .i64 ly3] W2 from by rw [ex3, ey3]; exact pl.out)
            replace ph := Lib.hid (show Held qh [.int .i64 hx3, .int .i64 hy3] W2 from by rw [ex4, ey4]; exact ph.out)
            clear ex3 ey3 ex4 ey4
            have hin : (false = true) → lx3 ≤ yn ∧ yn ≤ hx3 ∧ ly3 ≤ ye ∧ ye ≤ hy3 := fun q => by cases q
            obtain ⟨l0, l2⟩ := pl.out.one 0 rfl
            obtain ⟨l1, l3⟩ := pl.out.one 1 rfl
            obtain ⟨h0c, h2c⟩ := ph.out.one 0 rfl
            obtain ⟨h1c, h3c⟩ := ph.out.one 1 rfl
            obtain ⟨p0, _⟩ := pp.out.one 0 rfl
            obtain ⟨p1, _⟩ := pp.out.one 1 rfl
            go_upto_region 14 with (fail)
            obtain ⟨W5, eW5, oW5⟩ : ∃ Z, Z = (W2.setCell ⟨ql, 0, none⟩ (.int .i64 (if N < lx3 then N else lx3))).setCell ⟨ql, 1, none⟩ (.int .i64 (if E < ly3 then E else ly3)) ∧ Only ql W2 Z := ⟨_, rfl, ((Only.refl ql W2).setCell (p := ⟨ql, 0, none⟩) _).setCell (p := ⟨ql, 1, none⟩) _⟩
            replace pl := Lib.hid (show Held ql [.int .i64 (if N < lx3 then N else lx3), .int .i64 (if E < ly3 then E else ly3)] W5 from by rw [eW5]; exact (pl.out.set 0 _ (by simp)).set 1 _ (by simp))
            replace m3 := Lib.hid (m3.out.aside oW5 x3.out y1.out.2.2.2.2.2.1)
            replace s3 := Lib.hid (s3.out.beside (.of_only oW5) y1.out.1 y1.out.2.2.1)
            replace pp := Lib.hid (pp.out.only oW5 hq.out.1)
            replace ph := Lib.hid (ph.out.only oW5 (Ne.symm y1.out.2.2.2.2.1))
            rw [← eW5]
            clear eW5 oW5
            have f1 : (if N < lx3 then N else lx3) ≤ N ∧ (if N < lx3 then N else lx3) ≤ lx3 := by split <;> omega
            have f2 : (if E < ly3 then E else ly3) ≤ E ∧ (if E < ly3 then E else ly3) ≤ ly3 := by split <;> omega
            generalize (if N < lx3 then N else lx3) = lx2 at *
            generalize (if E < ly3 then E else ly3) = ly2 at *
            clear l0 l1 l2 l3 h0c h1c h2c h3c p0 p1
            obtain ⟨l0, l2⟩ := pl.out.one 0 rfl
            obtain ⟨l1, l3⟩ := pl.out.one 1 rfl
            obtain ⟨h0c, h2c⟩ := ph.out.one 0 rfl
            obtain ⟨h1c, h3c⟩ := ph.out.one 1 rfl
            obtain ⟨p0, _⟩ := pp.out.one 0 rfl
            obtain ⟨p1, _⟩ := pp.out.one 1 rfl
            go_upto_region 15 with (fail)
            obtain ⟨W6, eW6, oW6⟩ : ∃ Z, Z = (W5.setCell ⟨qh, 0, none⟩ (.int .i64 (if hx3 < N then N else hx3))).setCell ⟨qh, 1, none⟩ (.int .i64 (if hy3 < E then E else hy3)) ∧ Only qh W5 Z := ⟨_, rfl, ((Only.refl qh W5).setCell (p := ⟨qh, 0, none⟩) _).setCell (p := ⟨qh, 1, none⟩) _⟩
            replace ph := Lib.hid (show Held qh [.int .i64 (if hx3 < N then N else hx3), .int .i64 (if hy3 < E then E else hy3)] W6 from by rw [eW6]; exact (ph.out.set 0 _ (by simp)).set 1 _ (by simp))
            replace m3 := Lib.hid (m3.out.aside oW6 x4.out y1.out.2.2.2.2.2.2)
            replace s3 := Lib.hid (s3.out.beside (.of_only oW6) y1.out.2.1 y1.out.2.2.2.1)
            replace pp := Lib.hid (pp.out.only oW6 hq.out.2.1)
            replace pl := Lib.hid (pl.out.only oW6 y1.out.2.2.2.2.1)
            rw [← eW6]
            clear eW6 oW6
            have f3 : N ≤ (if hx3 < N then N else hx3) ∧ hx3 ≤ (if hx3 < N then N else hx3) := by split <;> omega
            have f4 : E ≤ (if hy3 < E then E else hy3) ∧ hy3 ≤ (if hy3 < E then E else hy3) := by split <;> omega
            generalize (if hx3 < N then N else hx3) = hx2 at *
            generalize (if hy3 < E then E else hy3) = hy2 at *
            clear l0 l1 l2 l3 h0c h1c h2c h3c p0 p1
            obtain ⟨k0, k1, k2, k3⟩ := hcells.out W6 m3.out.bw
            simp only [Nat.zero_mul, Nat.add_zero] at k0 k1 k2 k3
            have g1z := lg_mid (sh := sh) (kn := false) (lo := lx3) (hi := hx3) bn bN (fun q => ⟨(hin q).1, (hin q).2.1⟩) (fun _ => .inr trivial) (lo' := lx2) (hi' := hx2) f1.1 f3.1 (fun _ => f1.2) (fun _ => f3.2)
            have g2z := lg_mid (sh := sh) (kn := false) (lo := ly3) (hi := hy3) be bE (fun q => ⟨(hin q).2.2.1, (hin q).2.2.2⟩) (fun _ => .inr trivial) (lo' := ly2) (hi' := hy2) f2.1 f4.1 (fun _ => f2.2) (fun _ => f4.2)
            generalize lgV sh (if false = true then yn else N) N = YN at *
            generalize lgV sh (if false = true then ye else E) E = YE at *
            clear f1 f2 f3 f4
            go_wp2_with fail
            refine (SP.out _ m3.out).mono ?_
            rintro q w4 ⟨rfl, o4, l4⟩
            replace m3 := Lib.hid (m3.out.step o4 l4)
            replace s3 := Lib.hid (s3.out.bl l4 x1.out.no x2.out.no)
            replace pl := Lib.hid (pl.out.bl l4 x3.out.no)
            replace ph := Lib.hid (ph.out.bl l4 x4.out.no)
            clear o4 l4 k0 k1 k2 k3 SP hcells pp hq
            have WW := Lib.hid (fun u (m : WdL b n e sh YN YE true w u) => wwind (b := b) (n := n) (e := e) u m.o)
            go_wp2_with fail
            refine (WW.out _ m3.out).mono ?_
            rintro q w5 ⟨rfl, hb5⟩
            replace m3 := Lib.hid (m3.out.bel hb5)
            replace s3 := Lib.hid (s3.out.bel hb5)
            replace pl := Lib.hid (pl.out.bel hb5)
            replace ph := Lib.hid (ph.out.bel hb5)
            clear hb5 WW
            obtain ⟨l0, l2⟩ := pl.out.one 0 rfl
            obtain ⟨l1, l3⟩ := pl.out.one 1 rfl
            obtain ⟨h0c, h2c⟩ := ph.out.one 0 rfl
            obtain ⟨h1c, h3c⟩ := ph.out.one 1 rfl
            have d1 : ¬ YN < lx2 := by omega
            have d2 : ¬ hx2 < YN := by omega
            have d3 : ¬ YE < ly2 := by omega
            have d4 : ¬ hy2 < YE := by omega
            go_wp2
            go_roundw
            case rel => exact ⟨0 + 1, YN, YE, lx2, ly2, hx2, hy2, true, by omega, by first | rfl | go_num, by simp, fun _ => ⟨g1z.1, g1z.2.1, g2z.1, g2z.2.1⟩, fun _ => rfl, g1z.2.2, g2z.2.2, m3, s3, pl, ph⟩
            case measure => simp [intOf] <;> omega
          · have hk0' : ¬ (k : Int) = 0 := by omega
            have hk1 : ((k : Int) == 0) = false := by simp; omega
            obtain ⟨l0, l2⟩ := pl.out.one 0 rfl
            obtain ⟨l1, l3⟩ := pl.out.one 1 rfl
            obtain ⟨h0c, h2c⟩ := ph.out.one 0 rfl
            obtain ⟨h1c, h3c⟩ := ph.out.one 1 rfl
            obtain ⟨p0, _⟩ := pp.out.one 0 rfl
            obtain ⟨p1, _⟩ := pp.out.one 1 rfl
            go_upto_region 14 with (fail)
            obtain ⟨W5, eW5, oW5⟩ : ∃ Z, Z = (W.setCell ⟨ql, 0, none⟩ (.int .i64 (if N < lx then N else lx))).setCell ⟨ql, 1, none⟩ (.int .i64 (if E < ly then E else ly)) ∧ Only ql W Z := ⟨_, rfl, ((Only.refl ql W).setCell (p := ⟨ql, 0, none⟩) _).setCell (p := ⟨ql, 1, none⟩) _⟩
            replace pl := Lib.hid (show Held ql [.int .i64 (if N < lx then N else lx), .int .i64 (if E < ly then E else ly)] W5 from by rw [eW5]; exact (pl.out.set 0 _ (by simp)).set 1 _ (by simp))
            replace m3 := Lib.hid (m3.out.aside oW5 x3.out y1.out.2.2.2.2.2.1)
            replace s3 := Lib.hid (s3.out.beside (.of_only oW5) y1.out.1 y1.out.2.2.1)
            replace pp := Lib.hid (pp.out.only oW5 hq.out.1)
            replace ph := Lib.hid (ph.out.only oW5 (Ne.symm y1.out.2.2.2.2.1))
            rw [← eW5]
            clear eW5 oW5
            have f1 : (if N < lx then N else lx) ≤ N ∧ (if N < lx then N else lx) ≤ lx := by split <;> omega
            have f2 : (if E < ly then E else ly) ≤ E ∧ (if E < ly then E else ly) ≤ ly := by split <;> omega
            generalize (if N < lx then N else lx) = lx2 at *
            generalize (if E < ly then E else ly) = ly2 at *
            clear l0 l1 l2 l3 h0c h1c h2c h3c p0 p1
            obtain ⟨l0, l2⟩ := pl.out.one 0 rfl
            obtain ⟨l1, l3⟩ := pl.out.one 1 rfl
            obtain ⟨h0c, h2c⟩ := ph.out.one 0 rfl
            obtain ⟨h1c, h3c⟩ := ph.out.one 1 rfl
            obtain ⟨p0, _⟩ := pp.out.one 0 rfl
            obtain ⟨p1, _⟩ := pp.out.one 1 rfl
            go_upto_region 15 with (fail)
            obtain ⟨W6, eW6, oW6⟩ : ∃ Z, Z = (W5.setCell ⟨qh, 0, none⟩ (.int .i64 (if hx < N then N else hx))).setCell ⟨qh, 1, none⟩ (.int .i64 (if hy < E then E else hy)) ∧ Only qh W5 Z := ⟨_, rfl, ((Only.refl qh W5).setCell (p := ⟨qh, 0, none⟩) _).setCell (p := ⟨qh, 1, none⟩) _⟩
            replace ph := Lib.hid (show Held qh [.int .i64 (if hx < N then N else hx), .int .i64 (if hy < E then E else hy)] W6 from by rw [eW6]; exact (ph.out.set 0 _ (by simp)).set 1 _ (by simp))
            replace m3 := Lib.hid (m3.out.aside oW6 x4.out y1.out.2.2.2.2.2.2)
            replace s3 := Lib.hid (s3.out.beside (.of_only oW6) y1.out.2.1 y1.out.2.2.2.1)
            replace pp := Lib.hid (pp.out.only oW6 hq.out.2.1)
            replace pl := Lib.hid (pl.out.only oW6 y1.out.2.2.2.2.1)
            rw [← eW6]
            clear eW6 oW6
            have f3 : N ≤ (if hx < N then N else hx) ∧ hx ≤ (if hx < N then N else hx) := by split <;> omega
            have f4 : E ≤ (if hy < E then E else hy) ∧ hy ≤ (if hy < E then E else hy) := by split <;> omega
            generalize (if hx < N then N else hx) = hx2 at *
            generalize (if hy < E then E else hy) = hy2 at *
            clear l0 l1 l2 l3 h0c h1c h2c h3c p0 p1
            obtain ⟨k0, k1, k2, k3⟩ := hcells.out W6 m3.out.bw
            have g1z := lg_mid (sh := sh) (kn := kn) (lo := lx) (hi := hx) bn bN (fun q => ⟨(hin q).1, (hin q).2.1⟩) (fun _ => .inr trivial) (lo' := lx2) (hi' := hx2) f1.1 f3.1 (fun _ => f1.2) (fun _ => f3.2)
            have g2z := lg_mid (sh := sh) (kn := kn) (lo := ly) (hi := hy) be bE (fun q => ⟨(hin q).2.2.1, (hin q).2.2.2⟩) (fun _ => .inr trivial) (lo' := ly2) (hi' := hy2) f2.1 f4.1 (fun _ => f2.2) (fun _ => f4.2)
            generalize lgV sh (if kn = true then yn else N) N = YN at *
            generalize lgV sh (if kn = true then ye else E) E = YE at *
            clear f1 f2 f3 f4
            go_wp2_with fail
            refine (SP.out _ m3.out).mono ?_
            rintro q w4 ⟨rfl, o4, l4⟩
            replace m3 := Lib.hid (m3.out.step o4 l4)
            replace s3 := Lib.hid (s3.out.bl l4 x1.out.no x2.out.no)
            replace pl := Lib.hid (pl.out.bl l4 x3.out.no)
            replace ph := Lib.hid (ph.out.bl l4 x4.out.no)
            clear o4 l4 k0 k1 k2 k3 SP hcells pp hq
            have WW := Lib.hid (fun u (m : WdL b n e sh YN YE true w u) => wwind (b := b) (n := n) (e := e) u m.o)
            go_wp2_with fail
            refine (WW.out _ m3.out).mono ?_
            rintro q w5 ⟨rfl, hb5⟩
            replace m3 := Lib.hid (m3.out.bel hb5)
            replace s3 := Lib.hid (s3.out.bel hb5)
            replace pl := Lib.hid (pl.out.bel hb5)
            replace ph := Lib.hid (ph.out.bel hb5)
            clear hb5 WW
            obtain ⟨l0, l2⟩ := pl.out.one 0 rfl
            obtain ⟨l1, l3⟩ := pl.out.one 1 rfl
            obtain ⟨h0c, h2c⟩ := ph.out.one 0 rfl
            obtain ⟨h1c, h3c⟩ := ph.out.one 1 rfl
            have d1 : ¬ YN < lx2 := by omega
            have d2 : ¬ hx2 < YN := by omega
            have d3 : ¬ YE < ly2 := by omega
            have d4 : ¬ hy2 < YE := by omega
            go_wp2
            go_roundw
            case rel => exact ⟨k + 1, YN, YE, lx2, ly2, hx2, hy2, true, by omega, by first | rfl | go_num, by simp, fun _ => ⟨g1z.1, g1z.2.1, g2z.1, g2z.2.1⟩, fun _ => rfl, g1z.2.2, g2z.2.2, m3, s3, pl, ph⟩
            case measure => simp [intOf] <;> omega
        · have hk2 : k = rows.length := by omega
          have hk3 : ¬ (k : Int) < rows.length := by omega
          go_wp2_with fail
          refine (LV.out _).mono ?_
          rintro e w7 ⟨rfl, hb7⟩
          go_wp2
          go_ret
          exact ⟨rfl, (m3.out.bel hb7).bw⟩
  · have NW := Lib.hid (wnew_no sh w hs)
    go_enter Try.func10, Try.ntmps10
    go_wp2_with fail
    refine NW.out.mono ?_
    rintro e w1 ⟨rfl, rfl⟩
    go_wp2_with fail
    refine (LV.out _).mono ?_
    rintro e w7 ⟨rfl, hb7⟩
    go_wp2
    go_ret
    exact ⟨rfl, hb7⟩
end Go.Proofs.Ytiibgblpbjdpaaa
