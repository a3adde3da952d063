/- An estimator and the document's steps of a law's own; the example; the law WindNew; walked. -/
import Derived.Test.YtiibgblpbjdpaaaWind2
import Derived.Test.YtiibgblpbjdpaaaTurn12
import Derived.Deep.Cut
namespace Go.Proofs.Ytiibgblpbjdpaaa
open Go.ChangeShapes Go.WideShapes Go.ChangeAt Go.RowKit
set_option linter.unusedVariables false
set_option linter.unusedSimpArgs false
/-- An estimator of a law's own. -/
structure WdL (b n e : Nat) (sh yn ye : Int) (kn : Bool) (w u : World) : Prop where
  o : WdO b n e sh yn ye kn u
  bw : Below w.heap.size w u
  hb : w.heap.size ≤ b
  hn : w.heap.size ≤ n
  he : w.heap.size ≤ e
theorem WdL.bel {b n e : Nat} {sh yn ye : Int} {kn : Bool} {w u u' : World} (h : WdL b n e sh yn ye kn w u) (k : Below u.heap.size u u') : WdL b n e sh yn ye kn w u' := ⟨h.o.bel k, h.bw.trans (k.mono h.bw.size), h.hb, h.hn, h.he⟩
theorem WdL.step {b n e : Nat} {sh yn ye yn' ye' : Int} {kn kn' : Bool} {w u u' : World} (h : WdL b n e sh yn ye kn w u) (o : WdO b n e sh yn' ye' kn' u') (k : Bl [b, n, e] u u') : WdL b n e sh yn' ye' kn' w u' :=
  ⟨o, h.bw.trans (k.below (fun i hi => by have := h.hb; have := h.hn; have := h.he; simp at hi; omega) h.bw.size), h.hb, h.hn, h.he⟩
theorem WdL.tur {b n e : Nat} {sh yn ye : Int} {kn : Bool} {w u u' : World} (h : WdL b n e sh yn ye kn w u) (o : WdO b n e sh yn ye kn u') (k : Beside b u u') : WdL b n e sh yn ye kn w u' := h.step o (Bl.of_beside k (by simp))
theorem StT.bl {l : List Nat} {g1 o1 g2 o2 : Nat} {w w' : World} (h : StT g1 o1 g2 o2 w) (k : Bl l w w') (h1 : g1 ∉ l) (h2 : g2 ∉ l) : StT g1 o1 g2 o2 w' :=
  ⟨Nat.lt_of_lt_of_le h.l1 k.size, Nat.lt_of_lt_of_le h.l2 k.size, fun i hi => (World.cell?_of_block (a := ⟨g1, o1 + i, none⟩) (k.block g1 h.l1 h1)).trans (h.c i hi), fun i hi => (World.cell?_of_block (a := ⟨g2, o2 + i, none⟩) (k.block g2 h.l2 h2)).trans (h.s i hi)⟩
theorem wnewL (sh : Int) (w u : World) (k : Below w.heap.size w u) (h0 : 0 ≤ sh) (h1 : sh ≤ 16) : Calls Try.prog 24 #[.int .i64 sh] u fun q w' => ∃ b n e, q = .returned (.tuple #[.pointer (some ⟨b, 0, none⟩), .int .i64 0]) ∧ WdL b n e sh 0 0 false w w' ∧ Below u.heap.size u w' ∧ u.heap.size ≤ b ∧ u.heap.size ≤ n ∧ u.heap.size ≤ e :=
  (wnew_ok sh u h0 h1).mono (fun q w' hq => by
    obtain ⟨b, n, e, rfl, hO, hB, h1, h2, h3⟩ := hq
    exact ⟨b, n, e, rfl, ⟨hO, k.trans (hB.mono k.size), Nat.le_trans k.size h1, Nat.le_trans k.size h2, Nat.le_trans k.size h3⟩, hB, h1, h2, h3⟩)
theorem wd_ex : wdN 0 0 100 = 100 ∧ wdE 0 0 0 = 0 := by
  have e : wcl 0 = 0 := rfl
  have e2 : wcl 100 = 100 := rfl
  unfold wdN wdE
  rw [e, e2, Int.mul_zero, Int.mul_zero, show tdO 0 = 0 from rfl]
  exact ⟨rfl, rfl⟩
set_option maxRecDepth 100000 in
set_option maxHeartbeats 8000000 in
theorem lives20 (w : World) : Calls Try.prog 30 #[] w fun e w' => e = .returned (.bool true) ∧ Below w.heap.size w w' := by
  have NW := Lib.hid (wnewL 0 w w (Below.refl _ _) (by omega) (by omega))
  have ST := fun b n e u (m : WdL b n e 0 0 0 false w u) => wstep (b := b) (n := n) (e := e) 0 0 100 0 u m.o (by omega) (by omega) (by omega) (by omega) (by omega)
  rw [wd_ex.1, wd_ex.2] at ST
  simp only [Bool.false_eq_true, if_false, lgV_self] at ST
  replace ST := Lib.hid ST
  have WW := Lib.hid (fun b n e u (m : WdL b n e 0 100 0 true w u) => wwind (b := b) (n := n) (e := e) u m.o)
  go_enter Try.func30, Try.ntmps30
  go_wp2_with fail
  refine NW.out.mono ?_
  rintro e w1 ⟨b, n, e, rfl, m1, -, -, -, -⟩
  replace m1 := Lib.hid m1
  go_wp2_with fail
  refine (ST.out b n e _ m1.out).mono ?_
  rintro q w2 ⟨rfl, o2, l2⟩
  have m2 := Lib.hid (m1.out.step o2 l2)
  clear o2 l2 m1
  go_wp2_with fail
  refine (WW.out b n e _ m2.out).mono ?_
  rintro q w3 ⟨rfl, hb3⟩
  have m3 := Lib.hid (m2.out.bel hb3)
  clear hb3 m2
  go_wp2
  go_ret
  exact ⟨rfl, m3.out.bw⟩
set_option maxRecDepth 100000 in
set_option maxHeartbeats 8000000 in
theorem law_WindNew (sh t : Int) (a : Nat) (no ea : Int) (w : World) (ha : a < 65536) : Calls Try.prog 8 #[.int .i64 sh, .agg #[.int .i64 t, .int .u16 (a : Int), .int .i64 no, .int .i64 ea]] w fun e w' => e = .returned (.bool true) ∧ Below w.heap.size w w' := by
  obtain ⟨V, eV, hbV, pV⟩ : ∃ V, V = w.alloc (.cells #[.int .i64 t, .int .u16 (a : Int), .int .i64 no, .int .i64 ea] 58) ∧ Below w.heap.size w V ∧ Held w.heap.size [.int .i64 t, .int .u16 (a : Int), .int .i64 no, .int .i64 ea] V := ⟨_, rfl, (by repeat (first | exact Below.refl _ _ | assumption | apply Below.drew | apply below_drewN | (refine Below.alloc ?_ (by first | exact Nat.le_refl _ | omega | (simp <;> omega)) _) | (refine Below.setCell ?_ (by first | exact Nat.le_refl _ | omega | (simp <;> omega)) _))), Held.new w [.int .i64 t, .int .u16 (a : Int), .int .i64 no, .int .i64 ea] _⟩
  have LV := Lib.hid (fun u => lives20 u)
  have S0 := Lib.hid (fun u => wstep_nil t (a : Int) no ea u)
  have F0 := Lib.hid (fun u => wforget_nil u)
  have W0 := Lib.hid (fun u => wwind_nil u)
  have R0 := Lib.hid (fun u => wfrom_nil u)
  have A0 := Lib.hid (fun u => wair_nil no ea u)
  by_cases hs : 0 ≤ sh ∧ sh ≤ 16
  · have NW := Lib.hid (wnewL sh w V hbV hs.1 hs.2)
    have WW := Lib.hid (fun b n e u (m : WdL b n e sh 0 0 false w u) => wwind (b := b) (n := n) (e := e) u m.o)
    have WF := Lib.hid (fun b n e u (m : WdL b n e sh 0 0 false w u) => wfrom_no (b := b) (n := n) (e := e) u m.o)
    have WA := Lib.hid (fun b n e u (m : WdL b n e sh 0 0 false w u) => wair_no (b := b) (n := n) (e := e) no ea u m.o)
    have s1 : ¬ sh < 0 := by omega
    have s2 : ¬ 16 < sh := by omega
    clear hs
    replace pV := Lib.hid pV
    replace hbV := Lib.hid hbV
    go_enter Try.func8, Try.ntmps8
    go_upto_region 1 with (fail)
    rw [← eV]
    clear eV
    generalize hq : w.heap.size = q at *
    replace hq := Lib.hid hq
    go_wp2_with fail
    refine NW.out.mono ?_
    rintro e w1 ⟨b, n, e, rfl, m1, hb1, -, -, -⟩
    replace m1 := Lib.hid m1
    replace pV := Lib.hid (pV.out.bel hb1)
    obtain ⟨k0, _⟩ := pV.out.one 0 rfl
    obtain ⟨k1, _⟩ := pV.out.one 1 rfl
    obtain ⟨k2, _⟩ := pV.out.one 2 rfl
    obtain ⟨k3, _⟩ := pV.out.one 3 rfl
    clear hb1
    go_wp2_with fail
    refine (S0.out _).mono ?_
    rintro e w2 ⟨rfl, hb2⟩
    replace m1 := Lib.hid (m1.out.bel hb2)
    replace pV := Lib.hid (pV.out.bel hb2)
    clear k0 k1 k2 k3 hb2
    obtain ⟨k2, _⟩ := pV.out.one 2 rfl
    obtain ⟨k3, _⟩ := pV.out.one 3 rfl
    go_wp2_with fail
    refine (F0.out _).mono ?_
    rintro e w3 ⟨rfl, rfl⟩
    go_wp2_with fail
    refine (W0.out _).mono ?_
    rintro e w3 ⟨rfl, rfl⟩
    go_wp2_with fail
    refine (R0.out _).mono ?_
    rintro e w3 ⟨rfl, rfl⟩
    go_wp2_with fail
    refine (A0.out _).mono ?_
    rintro e w3 ⟨rfl, rfl⟩
    go_wp2_with fail
    refine (WW.out b n e _ m1.out).mono ?_
    rintro q w4 ⟨rfl, hb4⟩
    replace m1 := Lib.hid (m1.out.bel hb4)
    replace pV := Lib.hid (pV.out.bel hb4)
    clear hb4 k2 k3
    go_wp2_with fail
    refine (WF.out b n e _ m1.out).mono ?_
    rintro q w5 ⟨rfl, hb5⟩
    replace m1 := Lib.hid (m1.out.bel hb5)
    replace pV := Lib.hid (pV.out.bel hb5)
    clear hb5
    obtain ⟨k2, _⟩ := pV.out.one 2 rfl
    obtain ⟨k3, _⟩ := pV.out.one 3 rfl
    go_wp2_with fail
    refine (WA.out b n e _ m1.out).mono ?_
    rintro q w6 ⟨rfl, hb6⟩
    replace m1 := Lib.hid (m1.out.bel hb6)
    clear hb6 k2 k3 pV
    go_wp2_with fail
    refine (LV.out _).mono ?_
    rintro e w7 ⟨rfl, hb7⟩
    replace m1 := Lib.hid (m1.out.bel hb7)
    clear hb7
    go_wp2
    go_ret
    exact ⟨rfl, by first | exact m1.out.bw | (rw [← hq.out]; exact m1.out.bw) | (have := m1.out.bw; rw [hq.out] at this; exact this)⟩
  · have NW := Lib.hid (wnew_no sh V hs)
    have s1 : sh < 0 ∨ 16 < sh := by omega
    clear hs
    replace pV := Lib.hid pV
    replace hbV := Lib.hid hbV
    go_enter Try.func8, Try.ntmps8
    go_upto_region 1 with (fail)
    rw [← eV]
    clear eV
    generalize hq : w.heap.size = q at *
    replace hq := Lib.hid hq
    go_wp2_with fail
    refine NW.out.mono ?_
    rintro e w1 ⟨rfl, rfl⟩
    obtain ⟨k0, _⟩ := pV.out.one 0 rfl
    obtain ⟨k1, _⟩ := pV.out.one 1 rfl
    obtain ⟨k2, _⟩ := pV.out.one 2 rfl
    obtain ⟨k3, _⟩ := pV.out.one 3 rfl
    go_wp2_with fail
    refine (S0.out _).mono ?_
    rintro e w2 ⟨rfl, hb2⟩
    have hlt := pV.out.lt
    replace pV := Lib.hid (pV.out.bel hb2)
    replace hbV := Lib.hid (hbV.out.trans (hb2.mono (by omega)))
    clear k0 k1 k2 k3 hb2 hlt
    obtain ⟨k2, _⟩ := pV.out.one 2 rfl
    obtain ⟨k3, _⟩ := pV.out.one 3 rfl
    go_wp2_with fail
    refine (F0.out _).mono ?_
    rintro e w3 ⟨rfl, rfl⟩
    go_wp2_with fail
    refine (W0.out _).mono ?_
    rintro e w3 ⟨rfl, rfl⟩
    go_wp2_with fail
    refine (R0.out _).mono ?_
    rintro e w3 ⟨rfl, rfl⟩
    go_wp2_with fail
    refine (A0.out _).mono ?_
    rintro e w3 ⟨rfl, rfl⟩
    rcases s1 with s1 | s1
    · go_wp2_with fail
      refine (LV.out _).mono ?_
      rintro e w7 ⟨rfl, hb7⟩
      replace hbV := Lib.hid (hbV.out.trans (hb7.mono (by have := pV.out.lt; omega)))
      go_wp2
      go_ret
      exact ⟨rfl, by rw [hq.out]; exact hbV.out⟩
    · have s0 : ¬ sh < 0 := by omega
      go_wp2_with fail
      refine (LV.out _).mono ?_
      rintro e w7 ⟨rfl, hb7⟩
      replace hbV := Lib.hid (hbV.out.trans (hb7.mono (by have := pV.out.lt; omega)))
      go_wp2
      go_ret
      exact ⟨rfl, by rw [hq.out]; exact hbV.out⟩
theorem lawI_WindNew (sh t a no ea : Int) (w : World) (h : (Lit.int .u16 a).wf = true) : Calls Try.prog 8 #[.int .i64 sh, .agg #[.int .i64 t, .int .u16 a, .int .i64 no, .int .i64 ea]] w fun e w' => e = .returned (.bool true) ∧ Below w.heap.size w w' := by
  obtain ⟨b, rfl⟩ := Int.eq_ofNat_of_zero_le (u16_bd h).1
  exact law_WindNew sh t b no ea w (by have := u16_bd h; omega)
end Go.Proofs.Ytiibgblpbjdpaaa
