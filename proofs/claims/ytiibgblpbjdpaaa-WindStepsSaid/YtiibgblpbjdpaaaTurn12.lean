/- The laws TurnTells, TurnAngles; walked. -/
import Derived.Test.YtiibgblpbjdpaaaTurn10
import Derived.Test.YtiibgblpbjdpaaaTurn11
import Derived.Deep.Cut
namespace Go.Proofs.Ytiibgblpbjdpaaa
open Go.ChangeShapes Go.WideShapes Go.ChangeAt Go.RowKit
set_option linter.unusedVariables false
set_option linter.unusedSimpArgs false
/-- A turner, and the document's steps, of a law's own. -/
structure TelW (t g1 o1 g2 o2 : Nat) (w u : World) : Prop where
  m : TurW t w u
  s : StT g1 o1 g2 o2 u
  n1 : g1 ≠ t
  n2 : g2 ≠ t
theorem TelW.bel {t g1 o1 g2 o2 : Nat} {w u u' : World} (h : TelW t g1 o1 g2 o2 w u) (k : Below u.heap.size u u') : TelW t g1 o1 g2 o2 w u' := ⟨h.m.bel k, h.s.bel k, h.n1, h.n2⟩
theorem TelW.step {t g1 o1 g2 o2 : Nat} {w u u' : World} (h : TelW t g1 o1 g2 o2 w u) (a : TurW t w u') (k : Beside t u u') : TelW t g1 o1 g2 o2 w u' := ⟨a, h.s.beside k h.n1 h.n2, h.n1, h.n2⟩
theorem TelW.drew {t g1 o1 g2 o2 : Nat} {w u : World} (h : TelW t g1 o1 g2 o2 w u) : TelW t g1 o1 g2 o2 w u.drew := h.bel (Below.refl _ _).drew
theorem TelW.mk' {w w1 V : World} {g1 o1 g2 o2 : Nat} (s : StT g1 o1 g2 o2 w1) (k : Below w1.heap.size w1 V) (m : TurW w1.heap.size w V) : TelW w1.heap.size g1 o1 g2 o2 w V := ⟨m, s.bel k, by have := s.l1; omega, by have := s.l2; omega⟩
theorem rstepsT (w u : World) (k : Below w.heap.size w u) : Calls Try.prog 13 #[] u fun e w' => ∃ g1 o1 c1 g2 o2 c2, e = .returned (.tuple #[.slice (some ⟨g1, o1, none⟩) 14 c1, .slice (some ⟨g2, o2, none⟩) 14 c2]) ∧ StT g1 o1 g2 o2 w' ∧ Below w.heap.size w w' :=
  (rsteps04 u).mono (fun e w' q => by
    obtain ⟨x, y, rfl, hD, hb⟩ := q
    obtain ⟨g1, o1, c1, g2, o2, c2, rfl, rfl, -, -, s⟩ := hD.st
    exact ⟨g1, o1, c1, g2, o2, c2, rfl, s, k.trans (hb.mono k.size)⟩)
set_option maxRecDepth 100000 in
set_option maxHeartbeats 8000000 in
theorem law_TurnAngles (x y : Int) (w : World) : Calls Try.prog 5 #[.int .i64 x, .int .i64 y] w fun e w' => e = .returned (.bool true) ∧ Below w.heap.size w w' := by
  have RS := Lib.hid (rstepsT w w (Below.refl _ _))
  have LV := Lib.hid (fun u => lives04 u)
  have TA := Lib.hid (fun t u m => tangW t x y w u m)
  have RA := Lib.hid (fun g1 o1 c1 g2 o2 c2 u s => rangle04 g1 o1 c1 g2 o2 c2 x y u s)
  have al := anV_lt x y
  generalize anV x y = G at *
  have w6 : IntKind.i64.wrap (G : Int) = (G : Int) := by rw [IntKind.wrap_i64]; omega
  clear al
  go_enter Try.func5, Try.ntmps5
  go_wp2_with fail
  refine RS.out.mono ?_
  rintro e w1 ⟨g1, o1, c1, g2, o2, c2, rfl, s1, hb1⟩
  obtain ⟨Z, V, hz, eV, hbV, mV⟩ := TurW.new w w1 hb1
  have mT := TelW.mk' s1 hbV mV
  clear s1 hb1 hbV mV RS
  go_wp2_with fail
  rw [← eV]
  clear eV
  generalize w1.heap.size = t at *
  replace mT := Lib.hid mT
  clear w1
  refine (TA.out t _ mT.out.m).mono ?_
  rintro e w2 ⟨rfl, m2, bs2⟩
  have mT2 := Lib.hid (mT.out.step m2 bs2)
  clear m2 bs2 mT
  go_wp2_with fail
  refine (RA.out g1 o1 c1 g2 o2 c2 _ mT2.out.s).mono ?_
  rintro e w3 ⟨rfl, hb3⟩
  have mT3 := Lib.hid (mT2.out.bel hb3)
  clear hb3 mT2
  go_wp2_with fail
  refine (LV.out _).mono ?_
  rintro e w4 ⟨rfl, hb4⟩
  have m4 := Lib.hid (mT3.out.bel hb4)
  clear hb4
  go_wp2
  go_ret
  exact ⟨rfl, m4.out.m.b⟩
set_option maxRecDepth 100000 in
set_option maxHeartbeats 8000000 in
theorem law_TurnTells (a : Nat) (n : Int) (w : World) (ha : a < 65536) : Calls Try.prog 4 #[.int .u16 (a : Int), .int .i64 n] w fun e w' => e = .returned (.bool true) ∧ Below w.heap.size w w' := by
  have RS := Lib.hid (rstepsT w w (Below.refl _ _))
  have LV := Lib.hid (fun u => lives04 u)
  have TA := Lib.hid (fun t u m => tatW t a w u m ha)
  have TP := Lib.hid (fun t u m => tpointW t a n w u m ha)
  have RA := Lib.hid (fun g1 o1 c1 g2 o2 c2 u s => rat04 g1 o1 c1 g2 o2 c2 a u s ha)
  have RP := Lib.hid (fun g1 o1 c1 g2 o2 c2 u s => rpoint04 g1 o1 c1 g2 o2 c2 a n u s ha)
  generalize trV (atP a).1 (clp n) 1073741824 = px at *
  generalize trV (atP a).2 (clp n) 1073741824 = py at *
  generalize (atP a).1 = ax at *
  generalize (atP a).2 = ay at *
  have w7 : IntKind.i64.wrap (a : Int) = (a : Int) := by rw [IntKind.wrap_i64]; omega
  go_enter Try.func4, Try.ntmps4
  go_wp2_with fail
  refine RS.out.mono ?_
  rintro e w1 ⟨g1, o1, c1, g2, o2, c2, rfl, s1, hb1⟩
  obtain ⟨Z, V, hz, eV, hbV, mV⟩ := TurW.new w w1 hb1
  have mT := TelW.mk' s1 hbV mV
  clear s1 hb1 hbV mV RS
  go_wp2_with fail
  rw [← eV]
  clear eV
  generalize w1.heap.size = t at *
  replace mT := Lib.hid mT
  clear w1
  refine (RA.out g1 o1 c1 g2 o2 c2 _ mT.out.s).mono ?_
  rintro e w2 ⟨rfl, hb2⟩
  have mT2 := Lib.hid (mT.out.bel hb2)
  clear hb2 mT
  go_wp2_with fail
  refine (RP.out g1 o1 c1 g2 o2 c2 _ mT2.out.s).mono ?_
  rintro e w3 ⟨rfl, hb3⟩
  have mT3 := mT2.out.bel hb3
  clear hb3 mT2
  obtain ⟨V3, eV3, hv3, p3, p4⟩ : ∃ V3, V3 = (w3.alloc (.cells #[.int .i64 ax, .int .i64 ay] 48)).alloc (.cells #[.int .i64 px, .int .i64 py] 48) ∧ Below w3.heap.size w3 V3 ∧ Held w3.heap.size [.int .i64 ax, .int .i64 ay] V3 ∧ Held (w3.heap.size + 1) [.int .i64 px, .int .i64 py] V3 :=
    ⟨_, rfl, (by repeat (first | exact Below.refl _ _ | assumption | apply Below.drew | apply below_drewN | (refine Below.alloc ?_ (by first | exact Nat.le_refl _ | omega | (simp <;> omega)) _) | (refine Below.setCell ?_ (by first | exact Nat.le_refl _ | omega | (simp <;> omega)) _))), (Held.new w3 [.int .i64 ax, .int .i64 ay] _).bel (by repeat (first | exact Below.refl _ _ | assumption | apply Below.drew | apply below_drewN | (refine Below.alloc ?_ (by first | exact Nat.le_refl _ | omega | (simp <;> omega)) _) | (refine Below.setCell ?_ (by first | exact Nat.le_refl _ | omega | (simp <;> omega)) _))), by have := Held.new (w3.alloc (.cells #[.int .i64 ax, .int .i64 ay] 48)) [.int .i64 px, .int .i64 py] 48; simpa using this⟩
  have mt3 := mT3.m.r.lt
  have mT4 := Lib.hid (mT3.bel hv3)
  go_upto_region 4 with (fail)
  rw [← eV3]
  clear eV3 hv3 mT3
  have nq : w3.heap.size ≠ t := by omega
  have nr : w3.heap.size + 1 ≠ t := by omega
  generalize w3.heap.size + 1 = r at *
  generalize w3.heap.size = q at *
  clear w3 mt3
  replace p3 := Lib.hid p3
  replace p4 := Lib.hid p4
  replace nq := Lib.hid nq
  replace nr := Lib.hid nr
  go_wp2_with fail
  refine (TA.out t _ mT4.out.m).mono ?_
  rintro e w5 ⟨rfl, m5, bs5⟩
  have mT5 := Lib.hid (mT4.out.step m5 bs5)
  replace p3 := Lib.hid (p3.out.beside bs5 nq.out)
  replace p4 := Lib.hid (p4.out.beside bs5 nr.out)
  clear m5 bs5 mT4
  go_wp2_with fail
  refine (TP.out t _ mT5.out.m).mono ?_
  rintro e w6 ⟨rfl, m6, bs6⟩
  have mT6 := Lib.hid (mT5.out.step m6 bs6)
  replace p3 := Lib.hid (p3.out.beside bs6 nq.out)
  replace p4 := Lib.hid (p4.out.beside bs6 nr.out)
  clear m6 bs6 mT5
  obtain ⟨k0, _⟩ := p3.out.one 0 rfl
  obtain ⟨k1, _⟩ := p3.out.one 1 rfl
  obtain ⟨l0, _⟩ := p4.out.one 0 rfl
  obtain ⟨l1, _⟩ := p4.out.one 1 rfl
  go_wp2_with fail
  refine (LV.out _).mono ?_
  rintro e w4 ⟨rfl, hb4⟩
  have m4 := Lib.hid (mT6.out.bel hb4)
  clear hb4
  go_wp2
  go_ret
  exact ⟨rfl, m4.out.m.b⟩
theorem lawI_TurnTells (a : Int) (n : Int) (w : World) (h : (Lit.int .u16 a).wf = true) : Calls Try.prog 4 #[.int .u16 a, .int .i64 n] w fun e w' => e = .returned (.bool true) ∧ Below w.heap.size w w' := by
  obtain ⟨b, rfl⟩ := Int.eq_ofNat_of_zero_le (u16_bd h).1
  exact law_TurnTells b n w (by have := u16_bd h; omega)
end Go.Proofs.Ytiibgblpbjdpaaa
