/- Package bite: tests as they lie in memory; which may be; walked. -/
import Derived.Test.YtecpmffmmiogfabBite1
import Derived.Test.YtecpmffmmiogfabReg
namespace Go.Proofs.Ytecpmffmmiogfab
open Go.ChangeShapes Go.WideShapes Go.ChangeAt Go.RowKit
set_option linter.unusedVariables false
set_option linter.unusedSimpArgs false
def btN (rows : List (List Value)) (i : Nat) : ByteArray := match (rows.getD i [])[0]? with
  | some (Value.string s) => s
  | _ => ⟨#[]⟩
def btJ (rows : List (List Value)) (i j : Nat) : Int := match (rows.getD i [])[j]? with
  | some (Value.int _ n) => n
  | _ => 0
/-- Tests one behind the other. -/
def Bts (w : World) (a : Option Addr) (n : Nat) (NM : Nat → ByteArray) (J : Nat → Nat → Int) : Prop :=
  n = 0 ∨ ∃ b off, a = some ⟨b, off, none⟩ ∧ b < w.heap.size ∧ ∀ i, i < n → w.cell? ⟨b, off + i * 7, none⟩ = some (.string (NM i)) ∧ w.cell? ⟨b, off + i * 7 + 1, none⟩ = some (.int .i64 (J i 1)) ∧ w.cell? ⟨b, off + i * 7 + 2, none⟩ = some (.int .i64 (J i 2)) ∧ w.cell? ⟨b, off + i * 7 + 3, none⟩ = some (.int .i64 (J i 3)) ∧ w.cell? ⟨b, off + i * 7 + 4, none⟩ = some (.int .i64 (J i 4)) ∧ w.cell? ⟨b, off + i * 7 + 5, none⟩ = some (.int .i64 (J i 5)) ∧ w.cell? ⟨b, off + i * 7 + 6, none⟩ = some (.int .i64 (J i 6))
theorem Bts.below {w w' : World} {a : Option Addr} {n : Nat} {NM : Nat → ByteArray} {J : Nat → Nat → Int} (h : Bts w a n NM J) (hb : Below w.heap.size w w') : Bts w' a n NM J := by
  rcases h with h | ⟨b, off, e, hlt, hc⟩
  · exact .inl h
  · refine .inr ⟨b, off, e, Nat.lt_of_lt_of_le hlt hb.size, fun i hi => ?_⟩
    obtain ⟨h0, h1, h2, h3, h4, h5, h6⟩ := hc i hi
    exact ⟨(bc hb hlt).trans h0, (bc hb hlt).trans h1, (bc hb hlt).trans h2, (bc hb hlt).trans h3, (bc hb hlt).trans h4, (bc hb hlt).trans h5, (bc hb hlt).trans h6⟩
theorem Bts.at {w : World} {a : Option Addr} {n : Nat} {NM : Nat → ByteArray} {J : Nat → Nat → Int} (h : Bts w a n NM J) {i : Nat} (hi : i < n) : ∃ b off, a = some ⟨b, off, none⟩ ∧ b < w.heap.size ∧ w.cell? ⟨b, off + i * 7, none⟩ = some (.string (NM i)) ∧ w.cell? ⟨b, off + i * 7 + 1, none⟩ = some (.int .i64 (J i 1)) ∧ w.cell? ⟨b, off + i * 7 + 2, none⟩ = some (.int .i64 (J i 2)) ∧ w.cell? ⟨b, off + i * 7 + 3, none⟩ = some (.int .i64 (J i 3)) ∧ w.cell? ⟨b, off + i * 7 + 4, none⟩ = some (.int .i64 (J i 4)) ∧ w.cell? ⟨b, off + i * 7 + 5, none⟩ = some (.int .i64 (J i 5)) ∧ w.cell? ⟨b, off + i * 7 + 6, none⟩ = some (.int .i64 (J i 6)) := by
  rcases h with h | ⟨b, off, e, hlt, hc⟩
  · omega
  · exact ⟨b, off, e, hlt, hc i hi⟩
theorem bts_of_tab {w : World} {t : Option Addr} {rows : List (List Value)} (h : TabS [.str, .num .i64, .num .i64, .num .i64, .num .i64, .num .i64, .num .i64] w t rows) : Bts w t rows.length (btN rows) (btJ rows) ∧ ∀ i, i < rows.length → (btN rows i).size ≤ maxLen := by
  have key : ∀ i, (hi : i < rows.length) → ∃ b off, t = some ⟨b, off, none⟩ ∧ b < w.heap.size ∧ (btN rows i).size ≤ maxLen ∧ w.cell? ⟨b, off + i * 7, none⟩ = some (.string (btN rows i)) ∧ w.cell? ⟨b, off + i * 7 + 1, none⟩ = some (.int .i64 (btJ rows i 1)) ∧ w.cell? ⟨b, off + i * 7 + 2, none⟩ = some (.int .i64 (btJ rows i 2)) ∧ w.cell? ⟨b, off + i * 7 + 3, none⟩ = some (.int .i64 (btJ rows i 3)) ∧ w.cell? ⟨b, off + i * 7 + 4, none⟩ = some (.int .i64 (btJ rows i 4)) ∧ w.cell? ⟨b, off + i * 7 + 5, none⟩ = some (.int .i64 (btJ rows i 5)) ∧ w.cell? ⟨b, off + i * 7 + 6, none⟩ = some (.int .i64 (btJ rows i 6)) := by
    intro i hi
    obtain ⟨b, off, r, ea, hb, hr, hfl, hcell⟩ := h.at hi
    obtain ⟨s, _, rfl, hs, hfl⟩ := hfl
    obtain ⟨x1, _, rfl, _, hfl⟩ := hfl
    obtain ⟨x2, _, rfl, _, hfl⟩ := hfl
    obtain ⟨x3, _, rfl, _, hfl⟩ := hfl
    obtain ⟨x4, _, rfl, _, hfl⟩ := hfl
    obtain ⟨x5, _, rfl, _, hfl⟩ := hfl
    obtain ⟨x6, _, rfl, _, hfl⟩ := hfl
    have q0 : btN rows i = s := by unfold btN; rw [hr]; rfl
    have q1 : btJ rows i 1 = x1 := by unfold btJ; rw [hr]; rfl
    have q2 : btJ rows i 2 = x2 := by unfold btJ; rw [hr]; rfl
    have q3 : btJ rows i 3 = x3 := by unfold btJ; rw [hr]; rfl
    have q4 : btJ rows i 4 = x4 := by unfold btJ; rw [hr]; rfl
    have q5 : btJ rows i 5 = x5 := by unfold btJ; rw [hr]; rfl
    have q6 : btJ rows i 6 = x6 := by unfold btJ; rw [hr]; rfl
    simp only [q0, q1, q2, q3, q4, q5, q6]
    exact ⟨b, off, ea, hb, hs, hcell 0 _ rfl, hcell 1 _ rfl, hcell 2 _ rfl, hcell 3 _ rfl, hcell 4 _ rfl, hcell 5 _ rfl, hcell 6 _ rfl⟩
  refine ⟨?_, fun i hi => by obtain ⟨_, _, _, _, hs, _⟩ := key i hi; exact hs⟩
  rcases Nat.eq_zero_or_pos rows.length with h0 | h0
  · exact .inl h0
  · obtain ⟨b, off, ea, hb, -⟩ := key 0 h0
    refine .inr ⟨b, off, ea, hb, fun i hi => ?_⟩
    obtain ⟨b', off', ea', hb', -, hc⟩ := key i hi
    rw [ea] at ea'
    injection ea' with ea'
    injection ea' with e1 e2
    subst e1 e2
    exact hc
def sEq (a b : ByteArray) : Bool := a.toList == b.toList
def bwI (n l h : Int) : Bool := decide (l ≤ n) && decide (n ≤ h)
def tsB (nm : ByteArray) (si lo hi se ne li : Int) : Bool := namB nm && bwI si 0 1000 && decide (lo ≤ hi) && bwI se 0 100 && bwI ne 1 100 && bwI li (se + ne) 1000
theorem bbetw (n l h : Int) (w : World) : Calls Try.prog 34 #[.int .i64 n, .int .i64 l, .int .i64 h] w fun e w' => e = .returned (.bool (bwI n l h)) ∧ w = w' := by
  unfold bwI
  by_cases h1 : l ≤ n
  all_goals
    go_enter Try.func34, Try.ntmps34
    go_wp2
    go_ret
    exact ⟨ret_bool (by first | (simp [h1]; done) | (simp [h1]; omega)), rfl⟩
theorem bt_box (w : World) (nm : ByteArray) (si lo hi se ne li : Int) : ∃ V, V = (w.alloc (.cells #[.string nm, .int .i64 si, .int .i64 lo, .int .i64 hi, .int .i64 se, .int .i64 ne, .int .i64 li] 37)) ∧ Below w.heap.size w V ∧ V.heap.size = w.heap.size + 1 ∧ Held w.heap.size [.string nm, .int .i64 si, .int .i64 lo, .int .i64 hi, .int .i64 se, .int .i64 ne, .int .i64 li] V :=
  ⟨_, rfl, (by repeat (first | exact Below.refl _ _ | assumption | apply Below.drew | apply below_drewN | (refine Below.alloc ?_ (by first | exact Nat.le_refl _ | omega | (simp <;> omega)) _) | (refine Below.setCell ?_ (by first | exact Nat.le_refl _ | omega | (simp <;> omega)) _))), by simp, Held.new w [.string nm, .int .i64 si, .int .i64 lo, .int .i64 hi, .int .i64 se, .int .i64 ne, .int .i64 li] _⟩
set_option maxRecDepth 100000 in
set_option maxHeartbeats 8000000 in
theorem btest (nm : ByteArray) (si lo hi se ne li : Int) (hs : nm.size ≤ maxLen) (w : World) : Calls Try.prog 27 #[.agg #[.string nm, .int .i64 si, .int .i64 lo, .int .i64 hi, .int .i64 se, .int .i64 ne, .int .i64 li]] w fun e w' => e = .returned (.bool (tsB nm si lo hi se ne li)) ∧ Below w.heap.size w w' := by
  have NA := Lib.hid (fun u => bisname nm hs u)
  have B1 := Lib.hid (fun u => bbetw si 0 1000 u)
  have B2 := Lib.hid (fun u => bbetw se 0 100 u)
  have B3 := Lib.hid (fun u => bbetw ne 1 100 u)
  have B4 := Lib.hid (fun u => bbetw li (se + ne) 1000 u)
  have hw := Lib.hid (fun (a : bwI se 0 100 = true) (b : bwI ne 1 100 = true) => show IntKind.i64.wrap (se + ne) = se + ne from by
    unfold bwI at a b
    simp at a b
    exact IntWalk.i64_in _ ⟨by omega, by omega⟩)
  obtain ⟨R, hR⟩ : ∃ R, tsB nm si lo hi se ne li = R := ⟨_, rfl⟩
  rw [hR]
  unfold tsB at hR
  generalize namB nm = p0 at *
  generalize bwI si 0 1000 = p1 at *
  generalize bwI se 0 100 = p3 at *
  generalize bwI ne 1 100 = p4 at *
  generalize bwI li (se + ne) 1000 = p5 at *
  obtain ⟨V, eV, hb0, hz, hh⟩ := bt_box w nm si lo hi se ne li
  replace eV := Lib.hid eV
  replace hb0 := Lib.hid hb0
  clear hs hz
  replace hh := Lib.hid hh
  cases p0
  · replace hR := Lib.hid hR
    have hq := hh.out
    obtain ⟨c0, f0⟩ := hq.one 0 rfl
    obtain ⟨c1, f1⟩ := hq.one 1 rfl
    obtain ⟨c2, f2⟩ := hq.one 2 rfl
    obtain ⟨c3, f3⟩ := hq.one 3 rfl
    obtain ⟨c4, f4⟩ := hq.one 4 rfl
    obtain ⟨c5, f5⟩ := hq.one 5 rfl
    obtain ⟨c6, f6⟩ := hq.one 6 rfl
    clear hq
    go_enter Try.func27, Try.ntmps27
    go_upto_region 1 with (fail)
    rw [← eV.out]
    go_wp2_with fail
    refine (NA.out _).mono ?_
    rintro e w1 ⟨rfl, hb1⟩
    have hh1 := hh.out.bel hb1
    clear c0 c1 c2 c3 c4 c5 c6 f0 f1 f2 f3 f4 f5 f6
    obtain ⟨c0, f0⟩ := hh1.one 0 rfl
    obtain ⟨c1, f1⟩ := hh1.one 1 rfl
    obtain ⟨c2, f2⟩ := hh1.one 2 rfl
    obtain ⟨c3, f3⟩ := hh1.one 3 rfl
    obtain ⟨c4, f4⟩ := hh1.one 4 rfl
    obtain ⟨c5, f5⟩ := hh1.one 5 rfl
    obtain ⟨c6, f6⟩ := hh1.one 6 rfl
    have hb2 := Lib.hid (hb0.out.trans (hb1.mono hb0.out.size))
    clear hb1 hh1
    go_wp2_with (first | ((go_at_call 34; (first | (with_reducible refine (B1.out _).mono ?_) | (with_reducible refine (B2.out _).mono ?_) | (with_reducible refine (B3.out _).mono ?_) | (with_reducible refine (B4.out _).mono ?_)); rintro e w' ⟨rfl, rfl⟩)))
    go_ret
    exact ⟨by rw [← hR.out]; simp [*], hb2.out⟩
  · cases p1
    · replace hR := Lib.hid hR
      have hq := hh.out
      obtain ⟨c0, f0⟩ := hq.one 0 rfl
      obtain ⟨c1, f1⟩ := hq.one 1 rfl
      obtain ⟨c2, f2⟩ := hq.one 2 rfl
      obtain ⟨c3, f3⟩ := hq.one 3 rfl
      obtain ⟨c4, f4⟩ := hq.one 4 rfl
      obtain ⟨c5, f5⟩ := hq.one 5 rfl
      obtain ⟨c6, f6⟩ := hq.one 6 rfl
      clear hq
      go_enter Try.func27, Try.ntmps27
      go_upto_region 1 with (fail)
      rw [← eV.out]
      go_wp2_with fail
      refine (NA.out _).mono ?_
      rintro e w1 ⟨rfl, hb1⟩
      have hh1 := hh.out.bel hb1
      clear c0 c1 c2 c3 c4 c5 c6 f0 f1 f2 f3 f4 f5 f6
      obtain ⟨c0, f0⟩ := hh1.one 0 rfl
      obtain ⟨c1, f1⟩ := hh1.one 1 rfl
      obtain ⟨c2, f2⟩ := hh1.one 2 rfl
      obtain ⟨c3, f3⟩ := hh1.one 3 rfl
      obtain ⟨c4, f4⟩ := hh1.one 4 rfl
      obtain ⟨c5, f5⟩ := hh1.one 5 rfl
      obtain ⟨c6, f6⟩ := hh1.one 6 rfl
      have hb2 := Lib.hid (hb0.out.trans (hb1.mono hb0.out.size))
      clear hb1 hh1
      go_wp2_with (first | ((go_at_call 34; (first | (with_reducible refine (B1.out _).mono ?_) | (with_reducible refine (B2.out _).mono ?_) | (with_reducible refine (B3.out _).mono ?_) | (with_reducible refine (B4.out _).mono ?_)); rintro e w' ⟨rfl, rfl⟩)))
      go_ret
      exact ⟨by rw [← hR.out]; simp [*], hb2.out⟩
    · by_cases hl : lo ≤ hi
      · cases p3
        · replace hR := Lib.hid hR
          have hq := hh.out
          obtain ⟨c0, f0⟩ := hq.one 0 rfl
          obtain ⟨c1, f1⟩ := hq.one 1 rfl
          obtain ⟨c2, f2⟩ := hq.one 2 rfl
          obtain ⟨c3, f3⟩ := hq.one 3 rfl
          obtain ⟨c4, f4⟩ := hq.one 4 rfl
          obtain ⟨c5, f5⟩ := hq.one 5 rfl
          obtain ⟨c6, f6⟩ := hq.one 6 rfl
          clear hq
          go_enter Try.func27, Try.ntmps27
          go_upto_region 1 with (fail)
          rw [← eV.out]
          go_wp2_with fail
          refine (NA.out _).mono ?_
          rintro e w1 ⟨rfl, hb1⟩
          have hh1 := hh.out.bel hb1
          clear c0 c1 c2 c3 c4 c5 c6 f0 f1 f2 f3 f4 f5 f6
          obtain ⟨c0, f0⟩ := hh1.one 0 rfl
          obtain ⟨c1, f1⟩ := hh1.one 1 rfl
          obtain ⟨c2, f2⟩ := hh1.one 2 rfl
          obtain ⟨c3, f3⟩ := hh1.one 3 rfl
          obtain ⟨c4, f4⟩ := hh1.one 4 rfl
          obtain ⟨c5, f5⟩ := hh1.one 5 rfl
          obtain ⟨c6, f6⟩ := hh1.one 6 rfl
          have hb2 := Lib.hid (hb0.out.trans (hb1.mono hb0.out.size))
          clear hb1 hh1
          go_wp2_with (first | ((go_at_call 34; (first | (with_reducible refine (B1.out _).mono ?_) | (with_reducible refine (B2.out _).mono ?_) | (with_reducible refine (B3.out _).mono ?_) | (with_reducible refine (B4.out _).mono ?_)); rintro e w' ⟨rfl, rfl⟩)))
          go_ret
          exact ⟨by rw [← hR.out]; simp [*], hb2.out⟩
        · cases p4
          · replace hR := Lib.hid hR
            have hq := hh.out
            obtain ⟨c0, f0⟩ := hq.one 0 rfl
            obtain ⟨c1, f1⟩ := hq.one 1 rfl
            obtain ⟨c2, f2⟩ := hq.one 2 rfl
            obtain ⟨c3, f3⟩ := hq.one 3 rfl
            obtain ⟨c4, f4⟩ := hq.one 4 rfl
            obtain ⟨c5, f5⟩ := hq.one 5 rfl
            obtain ⟨c6, f6⟩ := hq.one 6 rfl
            clear hq
            go_enter Try.func27, Try.ntmps27
            go_upto_region 1 with (fail)
            rw [← eV.out]
            go_wp2_with fail
            refine (NA.out _).mono ?_
            rintro e w1 ⟨rfl, hb1⟩
            have hh1 := hh.out.bel hb1
            clear c0 c1 c2 c3 c4 c5 c6 f0 f1 f2 f3 f4 f5 f6
            obtain ⟨c0, f0⟩ := hh1.one 0 rfl
            obtain ⟨c1, f1⟩ := hh1.one 1 rfl
            obtain ⟨c2, f2⟩ := hh1.one 2 rfl
            obtain ⟨c3, f3⟩ := hh1.one 3 rfl
            obtain ⟨c4, f4⟩ := hh1.one 4 rfl
            obtain ⟨c5, f5⟩ := hh1.one 5 rfl
            obtain ⟨c6, f6⟩ := hh1.one 6 rfl
            have hb2 := Lib.hid (hb0.out.trans (hb1.mono hb0.out.size))
            clear hb1 hh1
            go_wp2_with (first | ((go_at_call 34; (first | (with_reducible refine (B1.out _).mono ?_) | (with_reducible refine (B2.out _).mono ?_) | (with_reducible refine (B3.out _).mono ?_) | (with_reducible refine (B4.out _).mono ?_)); rintro e w' ⟨rfl, rfl⟩)))
            go_ret
            exact ⟨by rw [← hR.out]; simp [*], hb2.out⟩
          · have hw2 := hw.out rfl rfl
            cases p5
            · replace hR := Lib.hid hR
              have hq := hh.out
              obtain ⟨c0, f0⟩ := hq.one 0 rfl
              obtain ⟨c1, f1⟩ := hq.one 1 rfl
              obtain ⟨c2, f2⟩ := hq.one 2 rfl
              obtain ⟨c3, f3⟩ := hq.one 3 rfl
              obtain ⟨c4, f4⟩ := hq.one 4 rfl
              obtain ⟨c5, f5⟩ := hq.one 5 rfl
              obtain ⟨c6, f6⟩ := hq.one 6 rfl
              clear hq
              go_enter Try.func27, Try.ntmps27
              go_upto_region 1 with (fail)
              rw [← eV.out]
              go_wp2_with fail
              refine (NA.out _).mono ?_
              rintro e w1 ⟨rfl, hb1⟩
              have hh1 := hh.out.bel hb1
              clear c0 c1 c2 c3 c4 c5 c6 f0 f1 f2 f3 f4 f5 f6
              obtain ⟨c0, f0⟩ := hh1.one 0 rfl
              obtain ⟨c1, f1⟩ := hh1.one 1 rfl
              obtain ⟨c2, f2⟩ := hh1.one 2 rfl
              obtain ⟨c3, f3⟩ := hh1.one 3 rfl
              obtain ⟨c4, f4⟩ := hh1.one 4 rfl
              obtain ⟨c5, f5⟩ := hh1.one 5 rfl
              obtain ⟨c6, f6⟩ := hh1.one 6 rfl
              have hb2 := Lib.hid (hb0.out.trans (hb1.mono hb0.out.size))
              clear hb1 hh1
              go_wp2_with (first | ((go_at_call 34; (first | (with_reducible refine (B1.out _).mono ?_) | (with_reducible refine (B2.out _).mono ?_) | (with_reducible refine (B3.out _).mono ?_) | (with_reducible refine (B4.out _).mono ?_)); rintro e w' ⟨rfl, rfl⟩)))
              go_ret
              exact ⟨by rw [← hR.out]; simp [*], hb2.out⟩
            · replace hR := Lib.hid hR
              have hq := hh.out
              obtain ⟨c0, f0⟩ := hq.one 0 rfl
              obtain ⟨c1, f1⟩ := hq.one 1 rfl
              obtain ⟨c2, f2⟩ := hq.one 2 rfl
              obtain ⟨c3, f3⟩ := hq.one 3 rfl
              obtain ⟨c4, f4⟩ := hq.one 4 rfl
              obtain ⟨c5, f5⟩ := hq.one 5 rfl
              obtain ⟨c6, f6⟩ := hq.one 6 rfl
              clear hq
              go_enter Try.func27, Try.ntmps27
              go_upto_region 1 with (fail)
              rw [← eV.out]
              go_wp2_with fail
              refine (NA.out _).mono ?_
              rintro e w1 ⟨rfl, hb1⟩
              have hh1 := hh.out.bel hb1
              clear c0 c1 c2 c3 c4 c5 c6 f0 f1 f2 f3 f4 f5 f6
              obtain ⟨c0, f0⟩ := hh1.one 0 rfl
              obtain ⟨c1, f1⟩ := hh1.one 1 rfl
              obtain ⟨c2, f2⟩ := hh1.one 2 rfl
              obtain ⟨c3, f3⟩ := hh1.one 3 rfl
              obtain ⟨c4, f4⟩ := hh1.one 4 rfl
              obtain ⟨c5, f5⟩ := hh1.one 5 rfl
              obtain ⟨c6, f6⟩ := hh1.one 6 rfl
              have hb2 := Lib.hid (hb0.out.trans (hb1.mono hb0.out.size))
              clear hb1 hh1
              go_wp2_with (first | ((go_at_call 34; (first | (with_reducible refine (B1.out _).mono ?_) | (with_reducible refine (B2.out _).mono ?_) | (with_reducible refine (B3.out _).mono ?_) | (with_reducible refine (B4.out _).mono ?_)); rintro e w' ⟨rfl, rfl⟩)))
              go_ret
              exact ⟨by rw [← hR.out]; simp [*], hb2.out⟩
      · rw [decide_eq_false hl] at hR
        replace hR := Lib.hid hR
        have hq := hh.out
        obtain ⟨c0, f0⟩ := hq.one 0 rfl
        obtain ⟨c1, f1⟩ := hq.one 1 rfl
        obtain ⟨c2, f2⟩ := hq.one 2 rfl
        obtain ⟨c3, f3⟩ := hq.one 3 rfl
        obtain ⟨c4, f4⟩ := hq.one 4 rfl
        obtain ⟨c5, f5⟩ := hq.one 5 rfl
        obtain ⟨c6, f6⟩ := hq.one 6 rfl
        clear hq
        go_enter Try.func27, Try.ntmps27
        go_upto_region 1 with (fail)
        rw [← eV.out]
        go_wp2_with fail
        refine (NA.out _).mono ?_
        rintro e w1 ⟨rfl, hb1⟩
        have hh1 := hh.out.bel hb1
        clear c0 c1 c2 c3 c4 c5 c6 f0 f1 f2 f3 f4 f5 f6
        obtain ⟨c0, f0⟩ := hh1.one 0 rfl
        obtain ⟨c1, f1⟩ := hh1.one 1 rfl
        obtain ⟨c2, f2⟩ := hh1.one 2 rfl
        obtain ⟨c3, f3⟩ := hh1.one 3 rfl
        obtain ⟨c4, f4⟩ := hh1.one 4 rfl
        obtain ⟨c5, f5⟩ := hh1.one 5 rfl
        obtain ⟨c6, f6⟩ := hh1.one 6 rfl
        have hb2 := Lib.hid (hb0.out.trans (hb1.mono hb0.out.size))
        clear hb1 hh1
        go_wp2_with (first | ((go_at_call 34; (first | (with_reducible refine (B1.out _).mono ?_) | (with_reducible refine (B2.out _).mono ?_) | (with_reducible refine (B3.out _).mono ?_) | (with_reducible refine (B4.out _).mono ?_)); rintro e w' ⟨rfl, rfl⟩)))
        go_ret
        exact ⟨by rw [← hR.out]; simp [*], hb2.out⟩
set_option maxRecDepth 100000 in
set_option maxHeartbeats 8000000 in
theorem bsame (q : Nat) (nm um : ByteArray) (x1 x2 x3 x4 x5 x6 : Int) (w : World) (hq : w.cell? ⟨q, 0, none⟩ = some (.string nm)) (hlt : q < w.heap.size) : Calls Try.prog 29 #[.agg #[.string um, .int .i64 x1, .int .i64 x2, .int .i64 x3, .int .i64 x4, .int .i64 x5, .int .i64 x6], .pointer (some ⟨q, 0, none⟩)] w fun e w' => e = .returned (.bool (sEq um nm)) ∧ Below w.heap.size w w' := by
  obtain ⟨V, eV, hb0, hz, hh⟩ := bt_box w um x1 x2 x3 x4 x5 x6
  replace eV := Lib.hid eV
  have k0 := (bc hb0 hlt).trans hq
  obtain ⟨c0, f0⟩ := hh.one 0 rfl
  obtain ⟨c1, f1⟩ := hh.one 1 rfl
  obtain ⟨c2, f2⟩ := hh.one 2 rfl
  obtain ⟨c3, f3⟩ := hh.one 3 rfl
  obtain ⟨c4, f4⟩ := hh.one 4 rfl
  obtain ⟨c5, f5⟩ := hh.one 5 rfl
  obtain ⟨c6, f6⟩ := hh.one 6 rfl
  obtain ⟨R, hR⟩ : ∃ R, sEq um nm = R := ⟨_, rfl⟩
  rw [hR]
  unfold sEq at hR
  clear hq
  go_enter Try.func29, Try.ntmps29
  go_upto_region 1 with (fail)
  rw [← eV.out]
  go_wp2
  go_ret
  exact ⟨ret_bool (by rw [← hR]), hb0⟩
/-- Has one of the first k the name of the one at i? -/
def dupB (NM : Nat → ByteArray) (k : Nat) (nm : ByteArray) : Bool := (List.range k).any fun j => sEq (NM j) nm
theorem dupB_step (NM : Nat → ByteArray) (k : Nat) (nm : ByteArray) : dupB NM (k + 1) nm = (dupB NM k nm || sEq (NM k) nm) := by
  unfold dupB
  rw [List.range_succ, List.any_append]
  simp
theorem dupB_hit {NM : Nat → ByteArray} {k n : Nat} {nm : ByteArray} (h : k < n) (e : sEq (NM k) nm = true) : dupB NM n nm = true := by
  unfold dupB
  rw [List.any_eq_true]
  exact ⟨k, List.mem_range.2 h, e⟩
set_option maxRecDepth 100000 in
set_option maxHeartbeats 8000000 in
theorem bindexf (a : Option Addr) (cap n : Nat) (NM : Nat → ByteArray) (J : Nat → Nat → Int) (q : Nat) (nm : ByteArray) (w : World) (h : Bts w a n NM J) (hl : n ≤ 1000) (hq : w.cell? ⟨q, 0, none⟩ = some (.string nm)) (hlt : q < w.heap.size) : Calls Try.prog 35 #[.slice a n cap, .func (.func 29) #[] #[.pointer (some ⟨q, 0, none⟩)]] w fun e w' => ∃ r : Int, e = .returned (.int .i64 r) ∧ decide (0 ≤ r) = dupB NM n nm ∧ Below w.heap.size w w' := by
  have HH := Lib.hid h
  have CL := Lib.hid (fun um x1 x2 x3 x4 x5 x6 u (k : Below w.heap.size w u) => bsame q nm um x1 x2 x3 x4 x5 x6 u ((bc k hlt).trans hq) (Nat.lt_of_lt_of_le hlt k.size))
  clear h hq hlt
  go_enter Try.func35, Try.ntmps35
  go_wp2
  go_loopw [8] (fun i v => ∃ k : Nat, k ≤ n ∧ i = .int .i64 (k : Int) ∧ Hid (Below w.heap.size w v) ∧ Hid (dupB NM k nm = false)) (fun i _ => n - (intOf i).toNat)
  case atStart => exact ⟨0, by omega, rfl, Lib.hid (Below.refl _ _), Lib.hid rfl⟩
  case round =>
    obtain ⟨k, hk, rfl, hb, hN⟩ := hrel
    by_cases hltk : k < n
    · obtain ⟨b, off, ea, hbb, k0, k1, k2, k3, k4, k5, k6⟩ := (HH.out.below hb.out).at hltk
      subst ea
      have j1 : (k : Int) < (n : Int) := by omega
      have j2 : IntKind.i64.wrap ((k : Int) + 1) = (k : Int) + 1 := by rw [IntKind.wrap_i64]; omega
      have j3 : 0 ≤ (k : Int) := by omega
      have CK := CL.out (NM k) (J k 1) (J k 2) (J k 3) (J k 4) (J k 5) (J k 6) wr hb.out
      have st := dupB_step NM k nm
      rw [hN.out, Bool.false_or] at st
      have HT := Lib.hid (fun e => dupB_hit (NM := NM) (nm := nm) hltk e)
      generalize sEq (NM k) nm = p at *
      replace CK := Lib.hid CK
      replace st := Lib.hid st
      clear hbb
      cases p
      all_goals
        go_wp2_with fail
        refine CK.out.mono ?_
        rintro e w1 ⟨rfl, hb1⟩
        have hb2 := Lib.hid (hb.out.trans (hb1.mono hb.out.size))
        clear hb1 hb
      · go_wp2
        go_roundw
        case rel => exact ⟨k + 1, by omega, by first | rfl | go_num, hb2, st⟩
        case measure => simp [intOf] <;> omega
      · go_wp2
        go_ret
        exact ⟨(k : Int), rfl, by rw [HT.out trivial]; simp, hb2.out⟩
    · obtain rfl : k = n := by omega
      go_wp2
      go_ret
      exact ⟨-1, rfl, by rw [hN.out]; rfl, hb.out⟩
set_option maxRecDepth 100000 in
set_option maxHeartbeats 8000000 in
theorem bcontf (a : Option Addr) (cap n : Nat) (NM : Nat → ByteArray) (J : Nat → Nat → Int) (q : Nat) (nm : ByteArray) (w : World) (h : Bts w a n NM J) (hl : n ≤ 1000) (hq : w.cell? ⟨q, 0, none⟩ = some (.string nm)) (hlt : q < w.heap.size) : Calls Try.prog 28 #[.slice a n cap, .func (.func 29) #[] #[.pointer (some ⟨q, 0, none⟩)]] w fun e w' => e = .returned (.bool (dupB NM n nm)) ∧ Below w.heap.size w w' := by
  have IX := Lib.hid (bindexf a cap n NM J q nm w h hl hq hlt)
  clear h hq hlt
  go_enter Try.func28, Try.ntmps28
  go_wp2_with fail
  refine IX.out.mono ?_
  rintro e w1 ⟨r, rfl, hr, hb⟩
  replace hr := Lib.hid hr
  go_wp2
  go_ret
  exact ⟨ret_bool (by rw [← hr.out]), hb⟩
end Go.Proofs.Ytecpmffmmiogfab
