/- Package bite: end and Step; walked. -/
import Derived.Test.YtecpmffmmiogfabBite4
import Derived.Test.YtecpmffmmiogfabReg
import Derived.Deep.CutRange
import Derived.Deep.CutBlock
namespace Go.Proofs.Ytecpmffmmiogfab
open Go.ChangeShapes Go.WideShapes Go.ChangeAt Go.RowKit
set_option linter.unusedVariables false
set_option linter.unusedSimpArgs false
def brEnd (s : BrSt) (r : Int) : BrSt := ⟨s.cur + 1, 0, 0, fun i => if i = s.cur then r else if i = s.cur + 1 then 1 else s.RS i⟩
set_option maxRecDepth 100000 in
set_option maxHeartbeats 8000000 in
theorem bend (p q tb tc n : Nat) (NM : Nat → ByteArray) (J : Nat → Nat → Int) (s : BrSt) (r : Int) (w : World) (h : BrR p q tb tc n NM J s w) (hn : n ≤ 20) (hc : s.cur < n) : Calls Try.prog 22 #[.pointer (some ⟨p, 0, none⟩), .int .i64 (s.cur : Int), .int .i64 r] w fun e w' => e = .returned (.tuple #[]) ∧ BrR p q tb tc n NM J (brEnd s r) w' ∧ Bes2 p q w w' := by
  obtain ⟨a, c, g, RS⟩ := s
  have hh : Held p [.slice (some ⟨tb, 0, none⟩) n tc, .slice (some ⟨q, 0, none⟩) n n, .int .i64 c, .int .i64 g] w := h.h
  have hr : w.rowIs q 3 n (fun i => .int .i64 (RS i)) := h.r
  have hc : a < n := hc
  have ht := h.t
  obtain ⟨w1, e1⟩ : ∃ w1, w1 = w.setCell ⟨q, a, none⟩ (.int .i64 r) := ⟨_, rfl⟩
  obtain ⟨w3, e3⟩ : ∃ w3, w3 = (w1.setCell ⟨p, 2, none⟩ (.int .i64 0)).setCell ⟨p, 3, none⟩ (.int .i64 0) := ⟨_, rfl⟩
  obtain ⟨w4, e4⟩ : ∃ w4, w4 = w3.setCell ⟨q, a + 1, none⟩ (.int .i64 1) := ⟨_, rfl⟩
  have b1 : Bes2 p q w w1 := by rw [e1]; exact (Bes2.refl p q w).set2 _ _
  have b3 : Bes2 p q w w3 := by rw [e3]; exact (b1.set1 2 _).set1 3 _
  have b4 : Bes2 p q w w4 := by rw [e4]; exact b3.set2 _ _
  have H1 : Held p [.slice (some ⟨tb, 0, none⟩) n tc, .slice (some ⟨q, 0, none⟩) n n, .int .i64 c, .int .i64 g] w1 := by rw [e1]; exact hh.beside ((Beside.of_below (Below.refl _ _)).setCell (p := ⟨q, a, none⟩) _) h.pq
  have H3 : Held p [.slice (some ⟨tb, 0, none⟩) n tc, .slice (some ⟨q, 0, none⟩) n n, .int .i64 0, .int .i64 0] w3 := by rw [e3]; exact (H1.set 2 (.int .i64 0) (by simp)).set 3 (.int .i64 0) (by simp)
  have H4 : Held p [.slice (some ⟨tb, 0, none⟩) n tc, .slice (some ⟨q, 0, none⟩) n n, .int .i64 0, .int .i64 0] w4 := by rw [e4]; exact H3.beside ((Beside.of_below (Below.refl _ _)).setCell (p := ⟨q, a + 1, none⟩) _) h.pq
  have R1 : w1.rowIs q 3 n (fun j => if j = a then .int .i64 r else .int .i64 (RS j)) := by rw [e1]; exact hr.set _ _
  have R3 : w3.rowIs q 3 n (fun j => if j = a then .int .i64 r else .int .i64 (RS j)) := by rw [e3]; exact (R1.setOther (a := ⟨p, 2, none⟩) (Ne.symm h.pq) _).setOther (a := ⟨p, 3, none⟩) (Ne.symm h.pq) _
  have R4 := R3.set (a + 1) (.int .i64 1)
  rw [← e4] at R4
  have F3 := Lib.hid (fun (hl : ¬ a + 1 < n) => show BrR p q tb tc n NM J (brEnd ⟨a, c, g, RS⟩ r) w3 from ⟨H3, R3.congr (fun i hi => by
    show (if i = a then Value.int .i64 r else .int .i64 (RS i)) = .int .i64 (if i = a then r else if i = a + 1 then 1 else RS i)
    by_cases q1 : i = a
    · rw [if_pos q1, if_pos q1]
    · rw [if_neg q1, if_neg q1, if_neg (by omega)]), ht.bes2 b3 h.tp h.tq, h.pq, h.tp, h.tq⟩)
  have F4 := Lib.hid (show BrR p q tb tc n NM J (brEnd ⟨a, c, g, RS⟩ r) w4 from ⟨H4, R4.congr (fun i hi => by
    show (if i = a + 1 then Value.int .i64 1 else if i = a then Value.int .i64 r else .int .i64 (RS i)) = .int .i64 (if i = a then r else if i = a + 1 then 1 else RS i)
    by_cases q1 : i = a
    · rw [if_neg (by omega), if_pos q1, if_pos q1]
    · rw [if_neg q1, if_neg q1]
      by_cases q2 : i = a + 1
      · rw [if_pos q2, if_pos q2]
      · rw [if_neg q2, if_neg q2]), ht.bes2 b4 h.tp h.tq, h.pq, h.tp, h.tq⟩)
  have j1 : (a : Int) < (n : Int) := by omega
  have j2 : IntKind.i64.wrap ((a : Int) + 1) = (a : Int) + 1 := by rw [IntKind.wrap_i64]; omega
  have z0 := hr.cell hc
  have z1 := hr.frozen a
  replace b3 := Lib.hid b3
  replace b4 := Lib.hid b4
  replace e1 := Lib.hid e1
  replace e3 := Lib.hid e3
  replace e4 := Lib.hid e4
  obtain ⟨c0, f0⟩ := hh.one 0 rfl
  obtain ⟨c1, f1⟩ := hh.one 1 rfl
  obtain ⟨c2, f2⟩ := hh.one 2 rfl
  obtain ⟨c3, f3⟩ := hh.one 3 rfl
  by_cases hl : a + 1 < n
  · have j3 : (a : Int) + 1 < (n : Int) := by omega
    have y0 := R3.cell hl
    have y1 := R3.frozen (a + 1)
    clear R1 R3 R4 hr hh h ht b1 H4
    replace H1 := Lib.hid H1
    replace H3 := Lib.hid H3
    go_enter Try.func22, Try.ntmps22
    go_upto_region 1 with (fail)
    rw [← e1.out]
    have hq := H1.out
    clear z0 z1 c0 c1 c2 c3 f0 f1 f2 f3
    obtain ⟨c0, f0⟩ := hq.one 0 rfl
    obtain ⟨c1, f1⟩ := hq.one 1 rfl
    obtain ⟨c2, f2⟩ := hq.one 2 rfl
    obtain ⟨c3, f3⟩ := hq.one 3 rfl
    clear hq
    go_upto_region 2 with (fail)
    rw [← e3.out]
    have hq := H3.out
    clear c0 c1 c2 c3 f0 f1 f2 f3
    obtain ⟨c0, f0⟩ := hq.one 0 rfl
    obtain ⟨c1, f1⟩ := hq.one 1 rfl
    obtain ⟨c2, f2⟩ := hq.one 2 rfl
    obtain ⟨c3, f3⟩ := hq.one 3 rfl
    clear hq
    go_wp2
    rw [← e4.out]
    go_end0
    exact ⟨rfl, F4.out, b4.out⟩
  · have j3 : ¬ (a : Int) + 1 < (n : Int) := by omega
    clear R1 R3 R4 hr hh h ht b1 H4
    replace H1 := Lib.hid H1
    replace H3 := Lib.hid H3
    go_enter Try.func22, Try.ntmps22
    go_upto_region 1 with (fail)
    rw [← e1.out]
    have hq := H1.out
    clear z0 z1 c0 c1 c2 c3 f0 f1 f2 f3
    obtain ⟨c0, f0⟩ := hq.one 0 rfl
    obtain ⟨c1, f1⟩ := hq.one 1 rfl
    obtain ⟨c2, f2⟩ := hq.one 2 rfl
    obtain ⟨c3, f3⟩ := hq.one 3 rfl
    clear hq
    go_upto_region 2 with (fail)
    rw [← e3.out]
    have hq := H3.out
    clear c0 c1 c2 c3 f0 f1 f2 f3
    obtain ⟨c0, f0⟩ := hq.one 0 rfl
    obtain ⟨c1, f1⟩ := hq.one 1 rfl
    obtain ⟨c2, f2⟩ := hq.one 2 rfl
    obtain ⟨c3, f3⟩ := hq.one 3 rfl
    clear hq
    go_wp2
    go_end0
    exact ⟨rfl, F3.out hl, b3.out⟩
def gN (J : Nat → Nat → Int) (i : Nat) (x c g : Int) : Int := if c + 1 ≤ J i 4 then g else if x < J i 2 ∨ J i 3 < x then 0 else g + 1
def brStep (n : Nat) (J : Nat → Nat → Int) (x : Int) (s : BrSt) : BrSt := if s.cur < n then (if gN J s.cur x s.c s.g = J s.cur 5 then brEnd s 2 else if s.c + 1 = J s.cur 6 then brEnd s 3 else ⟨s.cur, s.c + 1, gN J s.cur x s.c s.g, s.RS⟩) else s
theorem brEnd_ok {n : Nat} {NM : Nat → ByteArray} {J : Nat → Nat → Int} {s : BrSt} (hi : BrI n J s) (hj : JOk n NM J) (hc : s.cur < n) {r : Int} (hr : r = 2 ∨ r = 3) : BrI n J (brEnd s r) := by
  refine ⟨hc, fun i h => ?_, fun h => ?_, fun i h k => ?_, Int.le_refl _, Int.le_refl _, Int.le_refl _, fun h => ?_, fun h => ?_⟩
  · show (if i = s.cur then r else if i = s.cur + 1 then 1 else s.RS i) = 2 ∨ _
    by_cases q1 : i = s.cur
    · rw [if_pos q1]
      rcases hr with rfl | rfl
      · exact .inl rfl
      · exact .inr (by show (if i = s.cur then (3 : Int) else if i = s.cur + 1 then 1 else s.RS i) = 3; rw [if_pos q1])
    · have h : i < s.cur + 1 := h
      have q2 : ¬ i = s.cur + 1 := by omega
      rw [if_neg q1, if_neg q2]
      rcases hi.lo i (by omega) with q | q
      · exact .inl q
      · exact .inr (by show (if i = s.cur then r else if i = s.cur + 1 then 1 else s.RS i) = 3; rw [if_neg q1, if_neg q2]; exact q)
  · show (if s.cur + 1 = s.cur then r else if s.cur + 1 = s.cur + 1 then 1 else s.RS (s.cur + 1)) = 1
    rw [if_neg (by omega), if_pos rfl]
  · have k : s.cur + 1 < i := k
    show (if i = s.cur then r else if i = s.cur + 1 then 1 else s.RS i) = 0
    rw [if_neg (by omega), if_neg (by omega)]
    exact hi.hi i h (by omega)
  · have h : s.cur + 1 < n := h
    show (0 : Int) < J (s.cur + 1) 6
    have := hj.l _ h
    have := hj.s _ h
    have := hj.m _ h
    omega
  · have h : s.cur + 1 < n := h
    show (0 : Int) < J (s.cur + 1) 5
    have := hj.m _ h
    omega
theorem gN_b {J : Nat → Nat → Int} {i : Nat} {x c g : Int} (h0 : 0 ≤ g) (h1 : g ≤ c) : 0 ≤ gN J i x c g ∧ gN J i x c g ≤ c + 1 ∧ gN J i x c g ≤ g + 1 := by
  unfold gN
  split
  · omega
  · split <;> omega
theorem brStep_ok {n : Nat} {NM : Nat → ByteArray} {J : Nat → Nat → Int} {s : BrSt} (x : Int) (hi : BrI n J s) (hj : JOk n NM J) : BrI n J (brStep n J x s) := by
  unfold brStep
  by_cases hc : s.cur < n
  · rw [if_pos hc]
    have hb := gN_b (J := J) (i := s.cur) (x := x) hi.g0 hi.gc
    have gn := hi.gn hc
    have cl := hi.cl hc
    have c0 := hi.c0
    split
    · exact brEnd_ok hi hj hc (.inl rfl)
    · split
      · exact brEnd_ok hi hj hc (.inr rfl)
      · refine ⟨hi.le, hi.lo, hi.at1, hi.hi, ?_, hb.1, hb.2.1, fun _ => ?_, fun _ => ?_⟩
        · show 0 ≤ s.c + 1
          omega
        · show s.c + 1 < J s.cur 6
          omega
        · show gN J s.cur x s.c s.g < J s.cur 5
          omega
  · rw [if_neg hc]
    exact hi
structure BrK (p q tb tc n : Nat) (NM : Nat → ByteArray) (J : Nat → Nat → Int) (s : BrSt) (vb : Nat) (B : List Value) (w u : World) : Prop where
  r : BrR p q tb tc n NM J s u
  b : Held vb B u
  e : Bes2 p q w u
  vp : vb ≠ p
  vq : vb ≠ q
theorem BrK.bel {p q tb tc n : Nat} {NM : Nat → ByteArray} {J : Nat → Nat → Int} {s : BrSt} {vb : Nat} {B : List Value} {w u u' : World} (h : BrK p q tb tc n NM J s vb B w u) (k : Below u.heap.size u u') : BrK p q tb tc n NM J s vb B w u' := ⟨h.r.bel k, h.b.bel k, h.e.bel k, h.vp, h.vq⟩
theorem BrK.setc {p q tb tc n : Nat} {NM : Nat → ByteArray} {J : Nat → Nat → Int} {a : Nat} {c g : Int} {RS : Nat → Int} {vb : Nat} {B : List Value} {w u : World} (h : BrK p q tb tc n NM J ⟨a, c, g, RS⟩ vb B w u) (x : Int) : BrK p q tb tc n NM J ⟨a, x, g, RS⟩ vb B w (u.setCell ⟨p, 2, none⟩ (.int .i64 x)) := by
  have hb : Bes2 p q u (u.setCell ⟨p, 2, none⟩ (.int .i64 x)) := (Bes2.refl p q u).set1 _ _
  exact ⟨⟨h.r.h.set 2 (.int .i64 x) (by simp), h.r.r.setOther (a := ⟨p, 2, none⟩) (Ne.symm h.r.pq) _, h.r.t.bes2 hb h.r.tp h.r.tq, h.r.pq, h.r.tp, h.r.tq⟩, h.b.bes2 hb h.vp h.vq, h.e.trans hb, h.vp, h.vq⟩
theorem BrK.setg {p q tb tc n : Nat} {NM : Nat → ByteArray} {J : Nat → Nat → Int} {a : Nat} {c g : Int} {RS : Nat → Int} {vb : Nat} {B : List Value} {w u : World} (h : BrK p q tb tc n NM J ⟨a, c, g, RS⟩ vb B w u) (x : Int) : BrK p q tb tc n NM J ⟨a, c, x, RS⟩ vb B w (u.setCell ⟨p, 3, none⟩ (.int .i64 x)) := by
  have hb : Bes2 p q u (u.setCell ⟨p, 3, none⟩ (.int .i64 x)) := (Bes2.refl p q u).set1 _ _
  exact ⟨⟨h.r.h.set 3 (.int .i64 x) (by simp), h.r.r.setOther (a := ⟨p, 3, none⟩) (Ne.symm h.r.pq) _, h.r.t.bes2 hb h.r.tp h.r.tq, h.r.pq, h.r.tp, h.r.tq⟩, h.b.bes2 hb h.vp h.vq, h.e.trans hb, h.vp, h.vq⟩
set_option maxRecDepth 100000 in
set_option maxHeartbeats 8000000 in
theorem bstep (p q tb tc n : Nat) (NM : Nat → ByteArray) (J : Nat → Nat → Int) (s : BrSt) (w : World) (h : BrR p q tb tc n NM J s w) (hi : BrI n J s) (hj : JOk n NM J) (x : Int) : Calls Try.prog 12 #[.pointer (some ⟨p, 0, none⟩), .int .i64 x] w fun e w' => e = .returned (.bool (decide (s.cur < n))) ∧ BrR p q tb tc n NM J (brStep n J x s) w' ∧ Bes2 p q w w' := by
  have CR := bcurrent p q tb tc n NM J s w h hi hj
  obtain ⟨a, c, g, RS⟩ := s
  unfold curI at CR
  by_cases hc : a < n
  · have CQ : Calls Try.prog 21 #[.pointer (some ⟨p, 0, none⟩)] w fun e w' => e = .returned (.tuple #[.int .i64 (a : Int), .bool true]) ∧ w' = w := by
      have := CR
      rw [if_pos hc, decide_eq_true hc] at this
      exact this
    clear CR
    replace CQ := Lib.hid CQ
    have hn := hj.n20
    have js := hj.s a hc
    have jm := hj.m a hc
    have jl := hj.l a hc
    have cl : c < J a 6 := hi.cl hc
    have gn : g < J a 5 := hi.gn hc
    have q0 : 0 ≤ c := hi.c0
    have g0 : 0 ≤ g := hi.g0
    have wc1 : IntKind.i64.wrap (c + 1) = c + 1 := by rw [IntKind.wrap_i64]; omega
    have wg1 : IntKind.i64.wrap (g + 1) = g + 1 := by rw [IntKind.wrap_i64]; omega
    have ja : (a : Int) < (n : Int) := by omega
    obtain ⟨k0, k1, k2, k3, k4, k5, k6⟩ := h.at hc
    obtain ⟨V, eV, hm0, hz, hbx⟩ := bt_box w (NM a) (J a 1) (J a 2) (J a 3) (J a 4) (J a 5) (J a 6)
    have lp : w.heap.size ≠ p := Ne.symm (Nat.ne_of_lt h.h.lt)
    have lq : w.heap.size ≠ q := Ne.symm (Nat.ne_of_lt h.r.lt)
    have K0 := Lib.hid (show BrK p q tb tc n NM J ⟨a, c, g, RS⟩ w.heap.size _ w V from ⟨h.bel hm0, hbx, .of_below hm0, lp, lq⟩)
    have EN := Lib.hid (fun c' g' r u (k : BrR p q tb tc n NM J ⟨a, c', g', RS⟩ u) => bend p q tb tc n NM J ⟨a, c', g', RS⟩ r u k hn hc)
    have hp0 : Held p [.slice (some ⟨tb, 0, none⟩) n tc, .slice (some ⟨q, 0, none⟩) n n, .int .i64 c, .int .i64 g] w := h.h
    obtain ⟨y0, -⟩ := hp0.one 0 rfl
    obtain ⟨T, hT⟩ : ∃ T, brStep n J x ⟨a, c, g, RS⟩ = T := ⟨_, rfl⟩
    have T2 := fun (e : gN J a x c g = J a 5) => show T = brEnd ⟨a, c, g, RS⟩ 2 from by
      rw [← hT]
      unfold brStep
      rw [if_pos hc, if_pos e]
    have T3 := fun (e : ¬ gN J a x c g = J a 5) (e2 : c + 1 = J a 6) => show T = brEnd ⟨a, c, g, RS⟩ 3 from by
      rw [← hT]
      unfold brStep
      rw [if_pos hc, if_neg e, if_pos e2]
    have T0 := fun (e : ¬ gN J a x c g = J a 5) (e2 : ¬ c + 1 = J a 6) => show T = ⟨a, c + 1, gN J a x c g, RS⟩ from by
      rw [← hT]
      unfold brStep
      rw [if_pos hc, if_neg e, if_neg e2]
    rw [hT]
    have G1 := fun (e : c + 1 ≤ J a 4) => show gN J a x c g = g from by unfold gN; rw [if_pos e]
    have G2 := fun (e : ¬ c + 1 ≤ J a 4) (e2 : x < J a 2 ∨ J a 3 < x) => show gN J a x c g = 0 from by unfold gN; rw [if_neg e, if_pos e2]
    have G3 := fun (e : ¬ c + 1 ≤ J a 4) (e2 : ¬ (x < J a 2 ∨ J a 3 < x)) => show gN J a x c g = g + 1 from by unfold gN; rw [if_neg e, if_neg e2]
    have gb := gN_b (J := J) (i := a) (x := x) g0 hi.gc
    clear hT hbx hz hm0 hp0
    generalize gN J a x c g = G at *
    generalize NM a = nm at *
    generalize J a 1 = si at *
    generalize J a 2 = lo at *
    generalize J a 3 = hh at *
    generalize J a 4 = se at *
    generalize J a 5 = ne at *
    generalize J a 6 = li at *
    replace T0 := Lib.hid T0
    replace T2 := Lib.hid T2
    replace T3 := Lib.hid T3
    replace G1 := Lib.hid G1
    replace G2 := Lib.hid G2
    replace G3 := Lib.hid G3
    replace eV := Lib.hid eV
    obtain ⟨W1, eW⟩ : ∃ W1, W1 = V.setCell ⟨p, 2, none⟩ (.int .i64 (c + 1)) := ⟨_, rfl⟩
    have K1 := Lib.hid (show BrK p q tb tc n NM J ⟨a, c + 1, g, RS⟩ w.heap.size [.string nm, .int .i64 si, .int .i64 lo, .int .i64 hh, .int .i64 se, .int .i64 ne, .int .i64 li] w W1 from by rw [eW]; exact K0.out.setc (c + 1))
    replace eW := Lib.hid eW
    clear h hi hj js jm jl cl gn gb q0
    go_enter Try.func12, Try.ntmps12
    go_wp2_with fail
    refine CQ.out.mono ?_
    rintro e w1 ⟨rfl, hw1⟩
    subst w1
    go_upto_region 5 with (fail)
    rw [← eV.out]
    clear k0 k1 k2 k3 k4 k5 k6 y0
    have hp : Held p [.slice (some ⟨tb, 0, none⟩) n tc, .slice (some ⟨q, 0, none⟩) n n, .int .i64 c, .int .i64 g] _ := K0.out.r.h
    obtain ⟨c0, f0⟩ := hp.one 0 rfl
    obtain ⟨c1, f1⟩ := hp.one 1 rfl
    obtain ⟨c2, f2⟩ := hp.one 2 rfl
    obtain ⟨c3, f3⟩ := hp.one 3 rfl
    clear hp
    have hv := K0.out.b
    obtain ⟨v0, d0⟩ := hv.one 0 rfl
    obtain ⟨v1, d1⟩ := hv.one 1 rfl
    obtain ⟨v2, d2⟩ := hv.one 2 rfl
    obtain ⟨v3, d3⟩ := hv.one 3 rfl
    obtain ⟨v4, d4⟩ := hv.one 4 rfl
    obtain ⟨v5, d5⟩ := hv.one 5 rfl
    obtain ⟨v6, d6⟩ := hv.one 6 rfl
    clear hv
    go_upto_block 0 with (fail)
    rw [← eW.out]
    clear eW eV K0
    clear c0 c1 c2 c3 f0 f1 f2 f3 v0 v1 v2 v3 v4 v5 v6 d0 d1 d2 d3 d4 d5 d6
    go_cut [] from 9 (fun u => Hid (BrK p q tb tc n NM J ⟨a, c + 1, G, RS⟩ w.heap.size [.string nm, .int .i64 si, .int .i64 lo, .int .i64 hh, .int .i64 se, .int .i64 ne, .int .i64 li] w u))
    case first =>
      clear T0 T2 T3 EN CQ
      have hp : Held p [.slice (some ⟨tb, 0, none⟩) n tc, .slice (some ⟨q, 0, none⟩) n n, .int .i64 (c + 1), .int .i64 g] _ := K1.out.r.h
      obtain ⟨c0, f0⟩ := hp.one 0 rfl
      obtain ⟨c1, f1⟩ := hp.one 1 rfl
      obtain ⟨c2, f2⟩ := hp.one 2 rfl
      obtain ⟨c3, f3⟩ := hp.one 3 rfl
      clear hp
      have hv := K1.out.b
      obtain ⟨v0, d0⟩ := hv.one 0 rfl
      obtain ⟨v1, d1⟩ := hv.one 1 rfl
      obtain ⟨v2, d2⟩ := hv.one 2 rfl
      obtain ⟨v3, d3⟩ := hv.one 3 rfl
      obtain ⟨v4, d4⟩ := hv.one 4 rfl
      obtain ⟨v5, d5⟩ := hv.one 5 rfl
      obtain ⟨v6, d6⟩ := hv.one 6 rfl
      clear hv
      by_cases e1 : c + 1 ≤ se
      · obtain rfl : G = g := G1.out e1
        have q1 : decide (c + 1 ≤ se) = true := decide_eq_true e1
        clear G1 G2 G3
        go_wp2_with fail
        refine region_moves (fun u => u.cell? ⟨p, 2, none⟩ = some (.int .i64 (c + 1)) ∧ u.cell? ⟨w.heap.size, 4, none⟩ = some (.int .i64 se)) [] [(.free, 0), (.free, 1), (.free, 2), (.take, 3), (.free, 4), (.take, 5), (.free, 6), (.free, 7)] _ (by kernel_rfl) (by kernel_rfl) (by kernel_rfl) (by kernel_rfl) (by decide) rfl (fun _ _ _ _ _ h => h) ?_
        simp only [List.filterMap_cons, List.filterMap_nil, List.getElem?_toArray, List.getElem?_cons_zero, List.getElem?_cons_succ, Option.map_some]
        iterate 3
          first
            | (refine mv_free ?_ (Or.inl ⟨by rfl, ?_⟩) (⟨c2, v4⟩) ?_
               rotate_left 1
               · intro u
                 go_simp
                 try simp only [q1]
                 try with_reducible rfl
               simp only [Act.put, List.setIfInBounds_toArray, List.set_cons_zero, List.set_cons_succ])
            | (refine mv_free _ (Or.inr ⟨by rfl, rfl⟩) (⟨c2, v4⟩) ?_
               simp only [Act.put, List.setIfInBounds_toArray, List.set_cons_zero, List.set_cons_succ])
        iterate 1
          first
            | (refine mv_take ?_ (Or.inl ⟨by rfl, ?_⟩) (⟨c2, v4⟩) ?_
               rotate_left 1
               · intro u hu
                 (try dsimp only at hu)
                 go_simp
                 try with_reducible rfl
               simp only [Act.put, List.setIfInBounds_toArray, List.set_cons_zero, List.set_cons_succ])
            | (refine mv_take _ (Or.inr ⟨by rfl, rfl⟩) (⟨c2, v4⟩) ?_
               simp only [Act.put, List.setIfInBounds_toArray, List.set_cons_zero, List.set_cons_succ])
        iterate 1
          first
            | (refine mv_free ?_ (Or.inl ⟨by rfl, ?_⟩) (⟨c2, v4⟩) ?_
               rotate_left 1
               · intro u
                 go_simp
                 try simp only [q1]
                 try with_reducible rfl
               simp only [Act.put, List.setIfInBounds_toArray, List.set_cons_zero, List.set_cons_succ])
            | (refine mv_free _ (Or.inr ⟨by rfl, rfl⟩) (⟨c2, v4⟩) ?_
               simp only [Act.put, List.setIfInBounds_toArray, List.set_cons_zero, List.set_cons_succ])
        iterate 1
          first
            | (refine mv_take ?_ (Or.inl ⟨by rfl, ?_⟩) (⟨c2, v4⟩) ?_
               rotate_left 1
               · intro u hu
                 (try dsimp only at hu)
                 go_simp
                 try with_reducible rfl
               simp only [Act.put, List.setIfInBounds_toArray, List.set_cons_zero, List.set_cons_succ])
            | (refine mv_take _ (Or.inr ⟨by rfl, rfl⟩) (⟨c2, v4⟩) ?_
               simp only [Act.put, List.setIfInBounds_toArray, List.set_cons_zero, List.set_cons_succ])
        iterate 2
          first
            | (refine mv_free ?_ (Or.inl ⟨by rfl, ?_⟩) (⟨c2, v4⟩) ?_
               rotate_left 1
               · intro u
                 go_simp
                 try simp only [q1]
                 try with_reducible rfl
               simp only [Act.put, List.setIfInBounds_toArray, List.set_cons_zero, List.set_cons_succ])
            | (refine mv_free _ (Or.inr ⟨by rfl, rfl⟩) (⟨c2, v4⟩) ?_
               simp only [Act.put, List.setIfInBounds_toArray, List.set_cons_zero, List.set_cons_succ])
        refine mv_done ?_
        go_wp2_with fail
        go_meet
        case rel => exact Lib.hid (K1.out.bel (Below.refl _ _).drew)
      · have q1 : decide (c + 1 ≤ se) = false := decide_eq_false e1
        by_cases e2 : x < lo
        · obtain rfl : G = 0 := G2.out (by omega) (.inl e2)
          clear G1 G2 G3
          go_wp2_with fail
          refine region_moves (fun u => u.cell? ⟨p, 2, none⟩ = some (.int .i64 (c + 1)) ∧ u.cell? ⟨w.heap.size, 4, none⟩ = some (.int .i64 se)) [] [(.free, 0), (.free, 1), (.free, 2), (.take, 3), (.free, 4), (.take, 5), (.free, 6), (.free, 7)] _ (by kernel_rfl) (by kernel_rfl) (by kernel_rfl) (by kernel_rfl) (by decide) rfl (fun _ _ _ _ _ h => h) ?_
          simp only [List.filterMap_cons, List.filterMap_nil, List.getElem?_toArray, List.getElem?_cons_zero, List.getElem?_cons_succ, Option.map_some]
          iterate 3
            first
              | (refine mv_free ?_ (Or.inl ⟨by rfl, ?_⟩) (⟨c2, v4⟩) ?_
                 rotate_left 1
                 · intro u
                   go_simp
                   try simp only [q1]
                   try with_reducible rfl
                 simp only [Act.put, List.setIfInBounds_toArray, List.set_cons_zero, List.set_cons_succ])
              | (refine mv_free _ (Or.inr ⟨by rfl, rfl⟩) (⟨c2, v4⟩) ?_
                 simp only [Act.put, List.setIfInBounds_toArray, List.set_cons_zero, List.set_cons_succ])
          iterate 1
            first
              | (refine mv_take ?_ (Or.inl ⟨by rfl, ?_⟩) (⟨c2, v4⟩) ?_
                 rotate_left 1
                 · intro u hu
                   (try dsimp only at hu)
                   go_simp
                   try with_reducible rfl
                 simp only [Act.put, List.setIfInBounds_toArray, List.set_cons_zero, List.set_cons_succ])
              | (refine mv_take _ (Or.inr ⟨by rfl, rfl⟩) (⟨c2, v4⟩) ?_
                 simp only [Act.put, List.setIfInBounds_toArray, List.set_cons_zero, List.set_cons_succ])
          iterate 1
            first
              | (refine mv_free ?_ (Or.inl ⟨by rfl, ?_⟩) (⟨c2, v4⟩) ?_
                 rotate_left 1
                 · intro u
                   go_simp
                   try simp only [q1]
                   try with_reducible rfl
                 simp only [Act.put, List.setIfInBounds_toArray, List.set_cons_zero, List.set_cons_succ])
              | (refine mv_free _ (Or.inr ⟨by rfl, rfl⟩) (⟨c2, v4⟩) ?_
                 simp only [Act.put, List.setIfInBounds_toArray, List.set_cons_zero, List.set_cons_succ])
          iterate 1
            first
              | (refine mv_take ?_ (Or.inl ⟨by rfl, ?_⟩) (⟨c2, v4⟩) ?_
                 rotate_left 1
                 · intro u hu
                   (try dsimp only at hu)
                   go_simp
                   try with_reducible rfl
                 simp only [Act.put, List.setIfInBounds_toArray, List.set_cons_zero, List.set_cons_succ])
              | (refine mv_take _ (Or.inr ⟨by rfl, rfl⟩) (⟨c2, v4⟩) ?_
                 simp only [Act.put, List.setIfInBounds_toArray, List.set_cons_zero, List.set_cons_succ])
          iterate 2
            first
              | (refine mv_free ?_ (Or.inl ⟨by rfl, ?_⟩) (⟨c2, v4⟩) ?_
                 rotate_left 1
                 · intro u
                   go_simp
                   try simp only [q1]
                   try with_reducible rfl
                 simp only [Act.put, List.setIfInBounds_toArray, List.set_cons_zero, List.set_cons_succ])
              | (refine mv_free _ (Or.inr ⟨by rfl, rfl⟩) (⟨c2, v4⟩) ?_
                 simp only [Act.put, List.setIfInBounds_toArray, List.set_cons_zero, List.set_cons_succ])
          refine mv_done ?_
          go_wp2_with fail
          go_meet
          case rel => exact Lib.hid ((K1.out.bel (Below.refl _ _).drew).setg 0)
        · by_cases e3 : hh < x
          · obtain rfl : G = 0 := G2.out (by omega) (.inr e3)
            clear G1 G2 G3
            go_wp2_with fail
            refine region_moves (fun u => u.cell? ⟨p, 2, none⟩ = some (.int .i64 (c + 1)) ∧ u.cell? ⟨w.heap.size, 4, none⟩ = some (.int .i64 se)) [] [(.free, 0), (.free, 1), (.free, 2), (.take, 3), (.free, 4), (.take, 5), (.free, 6), (.free, 7)] _ (by kernel_rfl) (by kernel_rfl) (by kernel_rfl) (by kernel_rfl) (by decide) rfl (fun _ _ _ _ _ h => h) ?_
            simp only [List.filterMap_cons, List.filterMap_nil, List.getElem?_toArray, List.getElem?_cons_zero, List.getElem?_cons_succ, Option.map_some]
            iterate 3
              first
                | (refine mv_free ?_ (Or.inl ⟨by rfl, ?_⟩) (⟨c2, v4⟩) ?_
                   rotate_left 1
                   · intro u
                     go_simp
                     try simp only [q1]
                     try with_reducible rfl
                   simp only [Act.put, List.setIfInBounds_toArray, List.set_cons_zero, List.set_cons_succ])
                | (refine mv_free _ (Or.inr ⟨by rfl, rfl⟩) (⟨c2, v4⟩) ?_
                   simp only [Act.put, List.setIfInBounds_toArray, List.set_cons_zero, List.set_cons_succ])
            iterate 1
              first
                | (refine mv_take ?_ (Or.inl ⟨by rfl, ?_⟩) (⟨c2, v4⟩) ?_
                   rotate_left 1
                   · intro u hu
                     (try dsimp only at hu)
                     go_simp
                     try with_reducible rfl
                   simp only [Act.put, List.setIfInBounds_toArray, List.set_cons_zero, List.set_cons_succ])
                | (refine mv_take _ (Or.inr ⟨by rfl, rfl⟩) (⟨c2, v4⟩) ?_
                   simp only [Act.put, List.setIfInBounds_toArray, List.set_cons_zero, List.set_cons_succ])
            iterate 1
              first
                | (refine mv_free ?_ (Or.inl ⟨by rfl, ?_⟩) (⟨c2, v4⟩) ?_
                   rotate_left 1
                   · intro u
                     go_simp
                     try simp only [q1]
                     try with_reducible rfl
                   simp only [Act.put, List.setIfInBounds_toArray, List.set_cons_zero, List.set_cons_succ])
                | (refine mv_free _ (Or.inr ⟨by rfl, rfl⟩) (⟨c2, v4⟩) ?_
                   simp only [Act.put, List.setIfInBounds_toArray, List.set_cons_zero, List.set_cons_succ])
            iterate 1
              first
                | (refine mv_take ?_ (Or.inl ⟨by rfl, ?_⟩) (⟨c2, v4⟩) ?_
                   rotate_left 1
                   · intro u hu
                     (try dsimp only at hu)
                     go_simp
                     try with_reducible rfl
                   simp only [Act.put, List.setIfInBounds_toArray, List.set_cons_zero, List.set_cons_succ])
                | (refine mv_take _ (Or.inr ⟨by rfl, rfl⟩) (⟨c2, v4⟩) ?_
                   simp only [Act.put, List.setIfInBounds_toArray, List.set_cons_zero, List.set_cons_succ])
            iterate 2
              first
                | (refine mv_free ?_ (Or.inl ⟨by rfl, ?_⟩) (⟨c2, v4⟩) ?_
                   rotate_left 1
                   · intro u
                     go_simp
                     try simp only [q1]
                     try with_reducible rfl
                   simp only [Act.put, List.setIfInBounds_toArray, List.set_cons_zero, List.set_cons_succ])
                | (refine mv_free _ (Or.inr ⟨by rfl, rfl⟩) (⟨c2, v4⟩) ?_
                   simp only [Act.put, List.setIfInBounds_toArray, List.set_cons_zero, List.set_cons_succ])
            refine mv_done ?_
            go_wp2_with fail
            go_meet
            case rel => exact Lib.hid ((K1.out.bel (Below.refl _ _).drew).setg 0)
          · obtain rfl : G = g + 1 := G3.out (by omega) (by omega)
            clear G1 G2 G3
            go_wp2_with fail
            refine region_moves (fun u => u.cell? ⟨p, 2, none⟩ = some (.int .i64 (c + 1)) ∧ u.cell? ⟨w.heap.size, 4, none⟩ = some (.int .i64 se)) [] [(.free, 0), (.free, 1), (.free, 2), (.take, 3), (.free, 4), (.take, 5), (.free, 6), (.free, 7)] _ (by kernel_rfl) (by kernel_rfl) (by kernel_rfl) (by kernel_rfl) (by decide) rfl (fun _ _ _ _ _ h => h) ?_
            simp only [List.filterMap_cons, List.filterMap_nil, List.getElem?_toArray, List.getElem?_cons_zero, List.getElem?_cons_succ, Option.map_some]
            iterate 3
              first
                | (refine mv_free ?_ (Or.inl ⟨by rfl, ?_⟩) (⟨c2, v4⟩) ?_
                   rotate_left 1
                   · intro u
                     go_simp
                     try simp only [q1]
                     try with_reducible rfl
                   simp only [Act.put, List.setIfInBounds_toArray, List.set_cons_zero, List.set_cons_succ])
                | (refine mv_free _ (Or.inr ⟨by rfl, rfl⟩) (⟨c2, v4⟩) ?_
                   simp only [Act.put, List.setIfInBounds_toArray, List.set_cons_zero, List.set_cons_succ])
            iterate 1
              first
                | (refine mv_take ?_ (Or.inl ⟨by rfl, ?_⟩) (⟨c2, v4⟩) ?_
                   rotate_left 1
                   · intro u hu
                     (try dsimp only at hu)
                     go_simp
                     try with_reducible rfl
                   simp only [Act.put, List.setIfInBounds_toArray, List.set_cons_zero, List.set_cons_succ])
                | (refine mv_take _ (Or.inr ⟨by rfl, rfl⟩) (⟨c2, v4⟩) ?_
                   simp only [Act.put, List.setIfInBounds_toArray, List.set_cons_zero, List.set_cons_succ])
            iterate 1
              first
                | (refine mv_free ?_ (Or.inl ⟨by rfl, ?_⟩) (⟨c2, v4⟩) ?_
                   rotate_left 1
                   · intro u
                     go_simp
                     try simp only [q1]
                     try with_reducible rfl
                   simp only [Act.put, List.setIfInBounds_toArray, List.set_cons_zero, List.set_cons_succ])
                | (refine mv_free _ (Or.inr ⟨by rfl, rfl⟩) (⟨c2, v4⟩) ?_
                   simp only [Act.put, List.setIfInBounds_toArray, List.set_cons_zero, List.set_cons_succ])
            iterate 1
              first
                | (refine mv_take ?_ (Or.inl ⟨by rfl, ?_⟩) (⟨c2, v4⟩) ?_
                   rotate_left 1
                   · intro u hu
                     (try dsimp only at hu)
                     go_simp
                     try with_reducible rfl
                   simp only [Act.put, List.setIfInBounds_toArray, List.set_cons_zero, List.set_cons_succ])
                | (refine mv_take _ (Or.inr ⟨by rfl, rfl⟩) (⟨c2, v4⟩) ?_
                   simp only [Act.put, List.setIfInBounds_toArray, List.set_cons_zero, List.set_cons_succ])
            iterate 2
              first
                | (refine mv_free ?_ (Or.inl ⟨by rfl, ?_⟩) (⟨c2, v4⟩) ?_
                   rotate_left 1
                   · intro u
                     go_simp
                     try simp only [q1]
                     try with_reducible rfl
                   simp only [Act.put, List.setIfInBounds_toArray, List.set_cons_zero, List.set_cons_succ])
                | (refine mv_free _ (Or.inr ⟨by rfl, rfl⟩) (⟨c2, v4⟩) ?_
                   simp only [Act.put, List.setIfInBounds_toArray, List.set_cons_zero, List.set_cons_succ])
            refine mv_done ?_
            go_wp2_with fail
            go_meet
            case rel => exact Lib.hid ((K1.out.bel (Below.refl _ _).drew).setg (g + 1))
    case rest =>
      have K2 := hcut
      clear hcut K1 G1 G2 G3
      have hp : Held p [.slice (some ⟨tb, 0, none⟩) n tc, .slice (some ⟨q, 0, none⟩) n n, .int .i64 (c + 1), .int .i64 G] _ := K2.out.r.h
      obtain ⟨c0, f0⟩ := hp.one 0 rfl
      obtain ⟨c1, f1⟩ := hp.one 1 rfl
      obtain ⟨c2, f2⟩ := hp.one 2 rfl
      obtain ⟨c3, f3⟩ := hp.one 3 rfl
      clear hp
      have hv := K2.out.b
      obtain ⟨v0, d0⟩ := hv.one 0 rfl
      obtain ⟨v1, d1⟩ := hv.one 1 rfl
      obtain ⟨v2, d2⟩ := hv.one 2 rfl
      obtain ⟨v3, d3⟩ := hv.one 3 rfl
      obtain ⟨v4, d4⟩ := hv.one 4 rfl
      obtain ⟨v5, d5⟩ := hv.one 5 rfl
      obtain ⟨v6, d6⟩ := hv.one 6 rfl
      clear hv
      by_cases e1 : G = ne
      · have q1 : decide (G = ne) = true := decide_eq_true e1
        have TT := Lib.hid (T2.out e1)
        clear T0 T2 T3
        go_wp2_with fail
        refine region_moves (fun u => u.cell? ⟨p, 3, none⟩ = some (.int .i64 G) ∧ u.cell? ⟨w.heap.size, 5, none⟩ = some (.int .i64 ne)) [] [(.free, 0), (.free, 1), (.free, 2), (.take, 3), (.free, 4), (.take, 5), (.free, 6), (.free, 7)] _ (by kernel_rfl) (by kernel_rfl) (by kernel_rfl) (by kernel_rfl) (by decide) rfl (fun _ _ _ _ _ h => h) ?_
        simp only [List.filterMap_cons, List.filterMap_nil, List.getElem?_toArray, List.getElem?_cons_zero, List.getElem?_cons_succ, Option.map_some]
        iterate 3
          first
            | (refine mv_free ?_ (Or.inl ⟨by rfl, ?_⟩) (⟨c3, v5⟩) ?_
               rotate_left 1
               · intro u
                 go_simp
                 try simp only [q1]
                 try with_reducible rfl
               simp only [Act.put, List.setIfInBounds_toArray, List.set_cons_zero, List.set_cons_succ])
            | (refine mv_free _ (Or.inr ⟨by rfl, rfl⟩) (⟨c3, v5⟩) ?_
               simp only [Act.put, List.setIfInBounds_toArray, List.set_cons_zero, List.set_cons_succ])
        iterate 1
          first
            | (refine mv_take ?_ (Or.inl ⟨by rfl, ?_⟩) (⟨c3, v5⟩) ?_
               rotate_left 1
               · intro u hu
                 (try dsimp only at hu)
                 go_simp
                 try with_reducible rfl
               simp only [Act.put, List.setIfInBounds_toArray, List.set_cons_zero, List.set_cons_succ])
            | (refine mv_take _ (Or.inr ⟨by rfl, rfl⟩) (⟨c3, v5⟩) ?_
               simp only [Act.put, List.setIfInBounds_toArray, List.set_cons_zero, List.set_cons_succ])
        iterate 1
          first
            | (refine mv_free ?_ (Or.inl ⟨by rfl, ?_⟩) (⟨c3, v5⟩) ?_
               rotate_left 1
               · intro u
                 go_simp
                 try simp only [q1]
                 try with_reducible rfl
               simp only [Act.put, List.setIfInBounds_toArray, List.set_cons_zero, List.set_cons_succ])
            | (refine mv_free _ (Or.inr ⟨by rfl, rfl⟩) (⟨c3, v5⟩) ?_
               simp only [Act.put, List.setIfInBounds_toArray, List.set_cons_zero, List.set_cons_succ])
        iterate 1
          first
            | (refine mv_take ?_ (Or.inl ⟨by rfl, ?_⟩) (⟨c3, v5⟩) ?_
               rotate_left 1
               · intro u hu
                 (try dsimp only at hu)
                 go_simp
                 try with_reducible rfl
               simp only [Act.put, List.setIfInBounds_toArray, List.set_cons_zero, List.set_cons_succ])
            | (refine mv_take _ (Or.inr ⟨by rfl, rfl⟩) (⟨c3, v5⟩) ?_
               simp only [Act.put, List.setIfInBounds_toArray, List.set_cons_zero, List.set_cons_succ])
        iterate 2
          first
            | (refine mv_free ?_ (Or.inl ⟨by rfl, ?_⟩) (⟨c3, v5⟩) ?_
               rotate_left 1
               · intro u
                 go_simp
                 try simp only [q1]
                 try with_reducible rfl
               simp only [Act.put, List.setIfInBounds_toArray, List.set_cons_zero, List.set_cons_succ])
            | (refine mv_free _ (Or.inr ⟨by rfl, rfl⟩) (⟨c3, v5⟩) ?_
               simp only [Act.put, List.setIfInBounds_toArray, List.set_cons_zero, List.set_cons_succ])
        refine mv_done ?_
        have K3 := Lib.hid (K2.out.bel (Below.refl _ _).drew)
        clear c0 c1 c2 c3 f0 f1 f2 f3 v0 v1 v2 v3 v4 v5 v6 d0 d1 d2 d3 d4 d5 d6
        go_wp2_with (go_at_call 22; refine (EN.out _ _ _ _ K3.out.r).mono ?_)
        rintro e w5 ⟨rfl, hr, hb⟩
        have fin := Lib.hid (K3.out.e.trans hb)
        replace hr := Lib.hid hr
        clear hb
        go_wp2
        go_ret
        exact ⟨ret_bool (decide_eq_true hc).symm, by rw [TT.out]; exact hr.out, fin.out⟩
      · have q1 : decide (G = ne) = false := decide_eq_false e1
        by_cases e2 : c + 1 = li
        · have TT := Lib.hid (T3.out e1 e2)
          clear T0 T2 T3
          go_wp2_with fail
          refine region_moves (fun u => u.cell? ⟨p, 3, none⟩ = some (.int .i64 G) ∧ u.cell? ⟨w.heap.size, 5, none⟩ = some (.int .i64 ne)) [] [(.free, 0), (.free, 1), (.free, 2), (.take, 3), (.free, 4), (.take, 5), (.free, 6), (.free, 7)] _ (by kernel_rfl) (by kernel_rfl) (by kernel_rfl) (by kernel_rfl) (by decide) rfl (fun _ _ _ _ _ h => h) ?_
          simp only [List.filterMap_cons, List.filterMap_nil, List.getElem?_toArray, List.getElem?_cons_zero, List.getElem?_cons_succ, Option.map_some]
          iterate 3
            first
              | (refine mv_free ?_ (Or.inl ⟨by rfl, ?_⟩) (⟨c3, v5⟩) ?_
                 rotate_left 1
                 · intro u
                   go_simp
                   try simp only [q1]
                   try with_reducible rfl
                 simp only [Act.put, List.setIfInBounds_toArray, List.set_cons_zero, List.set_cons_succ])
              | (refine mv_free _ (Or.inr ⟨by rfl, rfl⟩) (⟨c3, v5⟩) ?_
                 simp only [Act.put, List.setIfInBounds_toArray, List.set_cons_zero, List.set_cons_succ])
          iterate 1
            first
              | (refine mv_take ?_ (Or.inl ⟨by rfl, ?_⟩) (⟨c3, v5⟩) ?_
                 rotate_left 1
                 · intro u hu
                   (try dsimp only at hu)
                   go_simp
                   try with_reducible rfl
                 simp only [Act.put, List.setIfInBounds_toArray, List.set_cons_zero, List.set_cons_succ])
              | (refine mv_take _ (Or.inr ⟨by rfl, rfl⟩) (⟨c3, v5⟩) ?_
                 simp only [Act.put, List.setIfInBounds_toArray, List.set_cons_zero, List.set_cons_succ])
          iterate 1
            first
              | (refine mv_free ?_ (Or.inl ⟨by rfl, ?_⟩) (⟨c3, v5⟩) ?_
                 rotate_left 1
                 · intro u
                   go_simp
                   try simp only [q1]
                   try with_reducible rfl
                 simp only [Act.put, List.setIfInBounds_toArray, List.set_cons_zero, List.set_cons_succ])
              | (refine mv_free _ (Or.inr ⟨by rfl, rfl⟩) (⟨c3, v5⟩) ?_
                 simp only [Act.put, List.setIfInBounds_toArray, List.set_cons_zero, List.set_cons_succ])
          iterate 1
            first
              | (refine mv_take ?_ (Or.inl ⟨by rfl, ?_⟩) (⟨c3, v5⟩) ?_
                 rotate_left 1
                 · intro u hu
                   (try dsimp only at hu)
                   go_simp
                   try with_reducible rfl
                 simp only [Act.put, List.setIfInBounds_toArray, List.set_cons_zero, List.set_cons_succ])
              | (refine mv_take _ (Or.inr ⟨by rfl, rfl⟩) (⟨c3, v5⟩) ?_
                 simp only [Act.put, List.setIfInBounds_toArray, List.set_cons_zero, List.set_cons_succ])
          iterate 2
            first
              | (refine mv_free ?_ (Or.inl ⟨by rfl, ?_⟩) (⟨c3, v5⟩) ?_
                 rotate_left 1
                 · intro u
                   go_simp
                   try simp only [q1]
                   try with_reducible rfl
                 simp only [Act.put, List.setIfInBounds_toArray, List.set_cons_zero, List.set_cons_succ])
              | (refine mv_free _ (Or.inr ⟨by rfl, rfl⟩) (⟨c3, v5⟩) ?_
                 simp only [Act.put, List.setIfInBounds_toArray, List.set_cons_zero, List.set_cons_succ])
          refine mv_done ?_
          have K3 := Lib.hid (K2.out.bel (Below.refl _ _).drew)
          clear c0 c1 c2 c3 f0 f1 f2 f3 v0 v1 v2 v3 v4 v5 v6 d0 d1 d2 d3 d4 d5 d6
          clear q1
          have q1 : decide (c + 1 = li) = true := decide_eq_true e2
          have hp : Held p [.slice (some ⟨tb, 0, none⟩) n tc, .slice (some ⟨q, 0, none⟩) n n, .int .i64 (c + 1), .int .i64 G] _ := K3.out.r.h
          obtain ⟨c0, f0⟩ := hp.one 0 rfl
          obtain ⟨c1, f1⟩ := hp.one 1 rfl
          obtain ⟨c2, f2⟩ := hp.one 2 rfl
          obtain ⟨c3, f3⟩ := hp.one 3 rfl
          clear hp
          have hv := K3.out.b
          obtain ⟨v0, d0⟩ := hv.one 0 rfl
          obtain ⟨v1, d1⟩ := hv.one 1 rfl
          obtain ⟨v2, d2⟩ := hv.one 2 rfl
          obtain ⟨v3, d3⟩ := hv.one 3 rfl
          obtain ⟨v4, d4⟩ := hv.one 4 rfl
          obtain ⟨v5, d5⟩ := hv.one 5 rfl
          obtain ⟨v6, d6⟩ := hv.one 6 rfl
          clear hv
          go_wp2_with fail
          refine region_moves (fun u => u.cell? ⟨p, 2, none⟩ = some (.int .i64 (c + 1)) ∧ u.cell? ⟨w.heap.size, 6, none⟩ = some (.int .i64 li)) [] [(.free, 0), (.free, 1), (.free, 2), (.take, 3), (.free, 4), (.take, 5), (.free, 6), (.free, 7)] _ (by kernel_rfl) (by kernel_rfl) (by kernel_rfl) (by kernel_rfl) (by decide) rfl (fun _ _ _ _ _ h => h) ?_
          simp only [List.filterMap_cons, List.filterMap_nil, List.getElem?_toArray, List.getElem?_cons_zero, List.getElem?_cons_succ, Option.map_some]
          iterate 3
            first
              | (refine mv_free ?_ (Or.inl ⟨by rfl, ?_⟩) (⟨c2, v6⟩) ?_
                 rotate_left 1
                 · intro u
                   go_simp
                   try simp only [q1]
                   try with_reducible rfl
                 simp only [Act.put, List.setIfInBounds_toArray, List.set_cons_zero, List.set_cons_succ])
              | (refine mv_free _ (Or.inr ⟨by rfl, rfl⟩) (⟨c2, v6⟩) ?_
                 simp only [Act.put, List.setIfInBounds_toArray, List.set_cons_zero, List.set_cons_succ])
          iterate 1
            first
              | (refine mv_take ?_ (Or.inl ⟨by rfl, ?_⟩) (⟨c2, v6⟩) ?_
                 rotate_left 1
                 · intro u hu
                   (try dsimp only at hu)
                   go_simp
                   try with_reducible rfl
                 simp only [Act.put, List.setIfInBounds_toArray, List.set_cons_zero, List.set_cons_succ])
              | (refine mv_take _ (Or.inr ⟨by rfl, rfl⟩) (⟨c2, v6⟩) ?_
                 simp only [Act.put, List.setIfInBounds_toArray, List.set_cons_zero, List.set_cons_succ])
          iterate 1
            first
              | (refine mv_free ?_ (Or.inl ⟨by rfl, ?_⟩) (⟨c2, v6⟩) ?_
                 rotate_left 1
                 · intro u
                   go_simp
                   try simp only [q1]
                   try with_reducible rfl
                 simp only [Act.put, List.setIfInBounds_toArray, List.set_cons_zero, List.set_cons_succ])
              | (refine mv_free _ (Or.inr ⟨by rfl, rfl⟩) (⟨c2, v6⟩) ?_
                 simp only [Act.put, List.setIfInBounds_toArray, List.set_cons_zero, List.set_cons_succ])
          iterate 1
            first
              | (refine mv_take ?_ (Or.inl ⟨by rfl, ?_⟩) (⟨c2, v6⟩) ?_
                 rotate_left 1
                 · intro u hu
                   (try dsimp only at hu)
                   go_simp
                   try with_reducible rfl
                 simp only [Act.put, List.setIfInBounds_toArray, List.set_cons_zero, List.set_cons_succ])
              | (refine mv_take _ (Or.inr ⟨by rfl, rfl⟩) (⟨c2, v6⟩) ?_
                 simp only [Act.put, List.setIfInBounds_toArray, List.set_cons_zero, List.set_cons_succ])
          iterate 2
            first
              | (refine mv_free ?_ (Or.inl ⟨by rfl, ?_⟩) (⟨c2, v6⟩) ?_
                 rotate_left 1
                 · intro u
                   go_simp
                   try simp only [q1]
                   try with_reducible rfl
                 simp only [Act.put, List.setIfInBounds_toArray, List.set_cons_zero, List.set_cons_succ])
              | (refine mv_free _ (Or.inr ⟨by rfl, rfl⟩) (⟨c2, v6⟩) ?_
                 simp only [Act.put, List.setIfInBounds_toArray, List.set_cons_zero, List.set_cons_succ])
          refine mv_done ?_
          have K4 := Lib.hid (K3.out.bel (Below.refl _ _).drew)
          clear c0 c1 c2 c3 f0 f1 f2 f3 v0 v1 v2 v3 v4 v5 v6 d0 d1 d2 d3 d4 d5 d6
          go_wp2_with (go_at_call 22; refine (EN.out _ _ _ _ K4.out.r).mono ?_)
          rintro e w5 ⟨rfl, hr, hb⟩
          have fin := Lib.hid (K4.out.e.trans hb)
          replace hr := Lib.hid hr
          clear hb
          go_wp2
          go_ret
          exact ⟨ret_bool (decide_eq_true hc).symm, by rw [TT.out]; exact hr.out, fin.out⟩
        · have TT := Lib.hid (T0.out e1 e2)
          clear T0 T2 T3
          go_wp2_with fail
          refine region_moves (fun u => u.cell? ⟨p, 3, none⟩ = some (.int .i64 G) ∧ u.cell? ⟨w.heap.size, 5, none⟩ = some (.int .i64 ne)) [] [(.free, 0), (.free, 1), (.free, 2), (.take, 3), (.free, 4), (.take, 5), (.free, 6), (.free, 7)] _ (by kernel_rfl) (by kernel_rfl) (by kernel_rfl) (by kernel_rfl) (by decide) rfl (fun _ _ _ _ _ h => h) ?_
          simp only [List.filterMap_cons, List.filterMap_nil, List.getElem?_toArray, List.getElem?_cons_zero, List.getElem?_cons_succ, Option.map_some]
          iterate 3
            first
              | (refine mv_free ?_ (Or.inl ⟨by rfl, ?_⟩) (⟨c3, v5⟩) ?_
                 rotate_left 1
                 · intro u
                   go_simp
                   try simp only [q1]
                   try with_reducible rfl
                 simp only [Act.put, List.setIfInBounds_toArray, List.set_cons_zero, List.set_cons_succ])
              | (refine mv_free _ (Or.inr ⟨by rfl, rfl⟩) (⟨c3, v5⟩) ?_
                 simp only [Act.put, List.setIfInBounds_toArray, List.set_cons_zero, List.set_cons_succ])
          iterate 1
            first
              | (refine mv_take ?_ (Or.inl ⟨by rfl, ?_⟩) (⟨c3, v5⟩) ?_
                 rotate_left 1
                 · intro u hu
                   (try dsimp only at hu)
                   go_simp
                   try with_reducible rfl
                 simp only [Act.put, List.setIfInBounds_toArray, List.set_cons_zero, List.set_cons_succ])
              | (refine mv_take _ (Or.inr ⟨by rfl, rfl⟩) (⟨c3, v5⟩) ?_
                 simp only [Act.put, List.setIfInBounds_toArray, List.set_cons_zero, List.set_cons_succ])
          iterate 1
            first
              | (refine mv_free ?_ (Or.inl ⟨by rfl, ?_⟩) (⟨c3, v5⟩) ?_
                 rotate_left 1
                 · intro u
                   go_simp
                   try simp only [q1]
                   try with_reducible rfl
                 simp only [Act.put, List.setIfInBounds_toArray, List.set_cons_zero, List.set_cons_succ])
              | (refine mv_free _ (Or.inr ⟨by rfl, rfl⟩) (⟨c3, v5⟩) ?_
                 simp only [Act.put, List.setIfInBounds_toArray, List.set_cons_zero, List.set_cons_succ])
          iterate 1
            first
              | (refine mv_take ?_ (Or.inl ⟨by rfl, ?_⟩) (⟨c3, v5⟩) ?_
                 rotate_left 1
                 · intro u hu
                   (try dsimp only at hu)
                   go_simp
                   try with_reducible rfl
                 simp only [Act.put, List.setIfInBounds_toArray, List.set_cons_zero, List.set_cons_succ])
              | (refine mv_take _ (Or.inr ⟨by rfl, rfl⟩) (⟨c3, v5⟩) ?_
                 simp only [Act.put, List.setIfInBounds_toArray, List.set_cons_zero, List.set_cons_succ])
          iterate 2
            first
              | (refine mv_free ?_ (Or.inl ⟨by rfl, ?_⟩) (⟨c3, v5⟩) ?_
                 rotate_left 1
                 · intro u
                   go_simp
                   try simp only [q1]
                   try with_reducible rfl
                 simp only [Act.put, List.setIfInBounds_toArray, List.set_cons_zero, List.set_cons_succ])
              | (refine mv_free _ (Or.inr ⟨by rfl, rfl⟩) (⟨c3, v5⟩) ?_
                 simp only [Act.put, List.setIfInBounds_toArray, List.set_cons_zero, List.set_cons_succ])
          refine mv_done ?_
          have K3 := Lib.hid (K2.out.bel (Below.refl _ _).drew)
          clear c0 c1 c2 c3 f0 f1 f2 f3 v0 v1 v2 v3 v4 v5 v6 d0 d1 d2 d3 d4 d5 d6
          clear q1
          have q1 : decide (c + 1 = li) = false := decide_eq_false e2
          have hp : Held p [.slice (some ⟨tb, 0, none⟩) n tc, .slice (some ⟨q, 0, none⟩) n n, .int .i64 (c + 1), .int .i64 G] _ := K3.out.r.h
          obtain ⟨c0, f0⟩ := hp.one 0 rfl
          obtain ⟨c1, f1⟩ := hp.one 1 rfl
          obtain ⟨c2, f2⟩ := hp.one 2 rfl
          obtain ⟨c3, f3⟩ := hp.one 3 rfl
          clear hp
          have hv := K3.out.b
          obtain ⟨v0, d0⟩ := hv.one 0 rfl
          obtain ⟨v1, d1⟩ := hv.one 1 rfl
          obtain ⟨v2, d2⟩ := hv.one 2 rfl
          obtain ⟨v3, d3⟩ := hv.one 3 rfl
          obtain ⟨v4, d4⟩ := hv.one 4 rfl
          obtain ⟨v5, d5⟩ := hv.one 5 rfl
          obtain ⟨v6, d6⟩ := hv.one 6 rfl
          clear hv
          go_wp2_with fail
          refine region_moves (fun u => u.cell? ⟨p, 2, none⟩ = some (.int .i64 (c + 1)) ∧ u.cell? ⟨w.heap.size, 6, none⟩ = some (.int .i64 li)) [] [(.free, 0), (.free, 1), (.free, 2), (.take, 3), (.free, 4), (.take, 5), (.free, 6), (.free, 7)] _ (by kernel_rfl) (by kernel_rfl) (by kernel_rfl) (by kernel_rfl) (by decide) rfl (fun _ _ _ _ _ h => h) ?_
          simp only [List.filterMap_cons, List.filterMap_nil, List.getElem?_toArray, List.getElem?_cons_zero, List.getElem?_cons_succ, Option.map_some]
          iterate 3
            first
              | (refine mv_free ?_ (Or.inl ⟨by rfl, ?_⟩) (⟨c2, v6⟩) ?_
                 rotate_left 1
                 · intro u
                   go_simp
                   try simp only [q1]
                   try with_reducible rfl
                 simp only [Act.put, List.setIfInBounds_toArray, List.set_cons_zero, List.set_cons_succ])
              | (refine mv_free _ (Or.inr ⟨by rfl, rfl⟩) (⟨c2, v6⟩) ?_
                 simp only [Act.put, List.setIfInBounds_toArray, List.set_cons_zero, List.set_cons_succ])
          iterate 1
            first
              | (refine mv_take ?_ (Or.inl ⟨by rfl, ?_⟩) (⟨c2, v6⟩) ?_
                 rotate_left 1
                 · intro u hu
                   (try dsimp only at hu)
                   go_simp
                   try with_reducible rfl
                 simp only [Act.put, List.setIfInBounds_toArray, List.set_cons_zero, List.set_cons_succ])
              | (refine mv_take _ (Or.inr ⟨by rfl, rfl⟩) (⟨c2, v6⟩) ?_
                 simp only [Act.put, List.setIfInBounds_toArray, List.set_cons_zero, List.set_cons_succ])
          iterate 1
            first
              | (refine mv_free ?_ (Or.inl ⟨by rfl, ?_⟩) (⟨c2, v6⟩) ?_
                 rotate_left 1
                 · intro u
                   go_simp
                   try simp only [q1]
                   try with_reducible rfl
                 simp only [Act.put, List.setIfInBounds_toArray, List.set_cons_zero, List.set_cons_succ])
              | (refine mv_free _ (Or.inr ⟨by rfl, rfl⟩) (⟨c2, v6⟩) ?_
                 simp only [Act.put, List.setIfInBounds_toArray, List.set_cons_zero, List.set_cons_succ])
          iterate 1
            first
              | (refine mv_take ?_ (Or.inl ⟨by rfl, ?_⟩) (⟨c2, v6⟩) ?_
                 rotate_left 1
                 · intro u hu
                   (try dsimp only at hu)
                   go_simp
                   try with_reducible rfl
                 simp only [Act.put, List.setIfInBounds_toArray, List.set_cons_zero, List.set_cons_succ])
              | (refine mv_take _ (Or.inr ⟨by rfl, rfl⟩) (⟨c2, v6⟩) ?_
                 simp only [Act.put, List.setIfInBounds_toArray, List.set_cons_zero, List.set_cons_succ])
          iterate 2
            first
              | (refine mv_free ?_ (Or.inl ⟨by rfl, ?_⟩) (⟨c2, v6⟩) ?_
                 rotate_left 1
                 · intro u
                   go_simp
                   try simp only [q1]
                   try with_reducible rfl
                 simp only [Act.put, List.setIfInBounds_toArray, List.set_cons_zero, List.set_cons_succ])
              | (refine mv_free _ (Or.inr ⟨by rfl, rfl⟩) (⟨c2, v6⟩) ?_
                 simp only [Act.put, List.setIfInBounds_toArray, List.set_cons_zero, List.set_cons_succ])
          refine mv_done ?_
          have K4 := Lib.hid (K3.out.bel (Below.refl _ _).drew)
          clear c0 c1 c2 c3 f0 f1 f2 f3 v0 v1 v2 v3 v4 v5 v6 d0 d1 d2 d3 d4 d5 d6
          go_wp2
          go_ret
          exact ⟨ret_bool (decide_eq_true hc).symm, by rw [TT.out]; exact K4.out.r, K4.out.e⟩
  · have CQ : Calls Try.prog 21 #[.pointer (some ⟨p, 0, none⟩)] w fun e w' => e = .returned (.tuple #[.int .i64 0, .bool false]) ∧ w' = w := by
      have := CR
      rw [if_neg hc, decide_eq_false hc] at this
      exact this
    clear CR
    replace CQ := Lib.hid CQ
    have e0 : brStep n J x ⟨a, c, g, RS⟩ = ⟨a, c, g, RS⟩ := if_neg hc
    have hh := Lib.hid h
    rw [e0]
    clear h hi hj e0
    go_enter Try.func12, Try.ntmps12
    go_wp2_with fail
    refine CQ.out.mono ?_
    rintro e w1 ⟨rfl, hw1⟩
    subst w1
    go_wp2
    go_ret
    exact ⟨ret_bool (decide_eq_false hc).symm, hh.out, Bes2.refl _ _ _⟩
end Go.Proofs.Ytecpmffmmiogfab
