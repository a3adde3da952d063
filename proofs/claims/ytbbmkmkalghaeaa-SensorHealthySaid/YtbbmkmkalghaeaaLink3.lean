/- A link's Step, by its cases; the chapter's example; walked. -/
import Derived.Test.YtbbmkmkalghaeaaLink2
import Derived.Deep.Cut
namespace Go.Proofs.Ytbbmkmkalghaeaa
open Go.ChangeShapes Go.WideShapes Go.ChangeAt Go.RowKit
set_option linter.unusedVariables false
set_option linter.unusedSimpArgs false

theorem RowIs.only {k : IntKind} {w w' : World} {a : Option Addr} {l : List Int} {b : Nat} (h : RowIs k w a l) (q : Only b w w') (hne : ∀ x, a = some x → x.block ≠ b) : RowIs k w' a l := by
  rcases h with rfl | ⟨blk, off, rfl, hlt, hc⟩
  · exact .inl rfl
  · exact .inr ⟨blk, off, rfl, by rw [q.size]; exact hlt, fun i hi => (q.cell (p := ⟨blk, off + i, none⟩) (show blk ≠ b from hne ⟨blk, off, none⟩ rfl)).trans (hc i hi)⟩
theorem Fr4.beside {s b : Nat} {p q r t : Int} {v v' : World} (h : Fr4 s p q r t v) (k : Beside b v v') (hs : s ≠ b) : Fr4 s p q r t v' := by
  have e := k.block s h.lt hs
  exact ⟨(World.cell?_of_block e).trans h.c0, (World.cell?_of_block e).trans h.c1, (World.cell?_of_block e).trans h.c2, (World.cell?_of_block e).trans h.c3, (World.frozen?_of_block e).trans h.f0, (World.frozen?_of_block e).trans h.f1, (World.frozen?_of_block e).trans h.f2, (World.frozen?_of_block e).trans h.f3, Nat.lt_of_lt_of_le h.lt k.size⟩
theorem Beside.last {b : Nat} {w u u9 : World} (h : Beside b w u) (g : Below w.heap.size u u9) : Beside b w u9 :=
  ⟨g.os.trans h.os, g.tape.trans h.tape, g.output.trans h.output, Nat.le_trans h.size g.size, fun k hk hne => (g.block k hk).trans (h.block k hk hne)⟩
/-- The next age. -/
def agN (ag : Int) : Int := if 1000000 < ag + 1 then 1000000 else ag + 1
theorem agN_bd {ag : Int} (h : 0 ≤ ag ∧ ag ≤ 1000000) : 0 ≤ agN ag ∧ agN ag ≤ 1000000 := by unfold agN; omega
set_option maxRecDepth 100000 in
set_option maxHeartbeats 8000000 in
theorem lkstep_none {id pa i s v t ag ta re : Int} {kn : Bool} (b : Nat) (w : World) (h : Held b (lkC id pa i s v t kn ag ta re) w) (ha : 0 ≤ ag ∧ ag ≤ 1000000) (a : Option Addr) (cap : Nat) : Calls Try.prog 113 #[.pointer (some ⟨b, 0, none⟩), .slice a 0 cap] w fun e w' => e = .returned (.tuple #[.agg #[.int .i64 0, .int .i64 0, .int .i64 0, .int .i64 0], .int .i64 10]) ∧ Held b (lkC id pa i s v t kn (agN ag) ta re) w' ∧ Beside b w w' := by
  obtain ⟨A, hA⟩ : ∃ A, A = agN ag := ⟨_, rfl⟩
  have n2 : (if 1000000 < ag + 1 then (1000000 : Int) else ag + 1) = A := hA.symm
  rw [← hA]
  replace hA := Lib.hid hA
  have n1 : IntKind.i64.wrap (ag + 1) = ag + 1 := by rw [IntKind.wrap_i64]; omega
  obtain ⟨V0, eV0, hb0, hN0, hz0⟩ := f4_alloc w 0 0 0 0
  have hlt := h.lt
  have hH0 := h.bel hb0
  obtain ⟨U1, eU1, hH1, hO1⟩ : ∃ u, u = V0.setCell ⟨b, 7, none⟩ (.int .i64 A) ∧ Held b (lkC id pa i s v t kn A ta re) u ∧ Only b V0 u := ⟨_, rfl, hH0.set 7 _ (by simp [lkC]), (Only.refl b V0).setCell (p := ⟨b, 7, none⟩) _⟩
  have hN1 := Lib.hid (hN0.only hO1 (by omega))
  have bs1 := Lib.hid ((Beside.of_below (b := b) hb0).trans (.of_only hO1))
  replace eV0 := Lib.hid eV0
  replace eU1 := Lib.hid eU1
  replace hlt := Lib.hid hlt
  replace hH1 := Lib.hid hH1
  clear hN0 hz0 h hb0 hO1
  have c7 := hH0.c 7 _ rfl
  have g7 := hH0.f 7 (by simp [lkC])
  clear hH0
  go_enter Try.func113, Try.ntmps113
  go_upto_region 1 with (fail)
  rw [← eV0.out]
  go_upto_region 4 with (fail)
  rw [← eU1.out]
  clear c7 g7
  obtain ⟨u9, e9, hF8, hb9⟩ := (hN1.out).laid 0 0 0 0
  have z0 := hF8.c0
  have z1 := hF8.c1
  have z2 := hF8.c2
  have z3 := hF8.c3
  rw [e9] at z0 z1 z2 z3
  have hR := Lib.hid (hH1.out.below hb9 hlt.out)
  have hBs := Lib.hid (bs1.out.last hb9)
  rw [e9] at hR hBs
  clear e9 hF8 hb9
  obtain ⟨q0, q1, q2, q3, p0, p1, p2, p3, -⟩ := hN1.out
  go_wp2
  refine bodyPost_ret (v := .tuple #[.agg #[.int .i64 0, .int .i64 0, .int .i64 0, .int .i64 0], .int .i64 10]) (by simp [results, Try.results113, go_sem, z0, z1, z2, z3]) rfl ?_
  exact ⟨rfl, hR.out, hBs.out⟩
set_option maxRecDepth 100000 in
set_option maxHeartbeats 8000000 in
theorem lkstep_err {id pa i s v t ag ta re : Int} {kn : Bool} {i' s' v' t' : Int} {kn' : Bool} {ee : Int} (b : Nat) (w : World) (h : Held b (lkC id pa i s v t kn ag ta re) w) (ha : 0 ≤ ag ∧ ag ≤ 1000000) (hr0 : 0 ≤ re ∧ re < 9223372036854775807) (he : ee ≠ 0) (l : List Int) (a : Option Addr) (cap : Nat) (hr : RowIs .u8 w a l) (hne : ∀ x, a = some x → x.block ≠ b) (hl : 0 < l.length) (hL : l.length ≤ maxLen) (RC : ∀ u, Held b (lkC id pa i s v t kn (agN ag) ta re) u → RowIs .u8 u a l → Calls Try.prog 128 #[.pointer (some ⟨b, 0, none⟩), .slice a l.length cap] u fun e w' => e = .returned (.tuple #[.agg #[.int .i64 0, .int .i64 0, .int .i64 0, .int .i64 0], .int .i64 ee]) ∧ Held b (lkC id pa i' s' v' t' kn' (agN ag) ta re) w' ∧ Beside b u w') : Calls Try.prog 113 #[.pointer (some ⟨b, 0, none⟩), .slice a l.length cap] w fun e w' => e = .returned (.tuple #[.agg #[.int .i64 0, .int .i64 0, .int .i64 0, .int .i64 0], .int .i64 ee]) ∧ Held b (lkC id pa i' s' v' t' kn' (agN ag) ta (re + 1)) w' ∧ Beside b w w' := by
  have d5 : (ee != 0) = true := by simp [he]
  obtain ⟨A, hA⟩ : ∃ A, A = agN ag := ⟨_, rfl⟩
  have n2 : (if 1000000 < ag + 1 then (1000000 : Int) else ag + 1) = A := hA.symm
  rw [← hA] at RC ⊢
  replace hA := Lib.hid hA
  have n1 : IntKind.i64.wrap (ag + 1) = ag + 1 := by rw [IntKind.wrap_i64]; omega
  obtain ⟨V0, eV0, hb0, hN0, hz0⟩ := f4_alloc w 0 0 0 0
  have hlt := h.lt
  have hH0 := h.bel hb0
  obtain ⟨U1, eU1, hH1, hO1⟩ : ∃ u, u = V0.setCell ⟨b, 7, none⟩ (.int .i64 A) ∧ Held b (lkC id pa i s v t kn A ta re) u ∧ Only b V0 u := ⟨_, rfl, hH0.set 7 _ (by simp [lkC]), (Only.refl b V0).setCell (p := ⟨b, 7, none⟩) _⟩
  have hN1 := Lib.hid (hN0.only hO1 (by omega))
  have bs1 := Lib.hid ((Beside.of_below (b := b) hb0).trans (.of_only hO1))
  have hr1 := (hr.below hb0).only hO1 hne
  have C := Lib.hid (RC _ hH1 hr1)
  have d6 : ((l.length : Int) == 0) = false := by simp; intro e; simp [e] at hl
  clear RC hr1 hr hne hl hL
  replace eV0 := Lib.hid eV0
  replace eU1 := Lib.hid eU1
  replace hlt := Lib.hid hlt
  replace hH1 := Lib.hid hH1
  clear hN0 hz0 h hb0 hO1
  have c7 := hH0.c 7 _ rfl
  have g7 := hH0.f 7 (by simp [lkC])
  clear hH0
  go_enter Try.func113, Try.ntmps113
  go_upto_region 1 with (fail)
  rw [← eV0.out]
  go_upto_region 4 with (fail)
  rw [← eU1.out]
  clear c7 g7
  go_wp2_with fail
  refine C.out.mono ?_
  rintro e w2 ⟨rfl, hH2, bs2⟩
  have hN2 := hN1.out.beside bs2 (by have := hlt.out; omega)
  have bs3 := bs1.out.trans bs2
  have hb2 := hH2.lt
  clear hN1 hH1 bs1 bs2 eU1
  go_upto_region 7 with (fail)
  obtain ⟨V2, eV2, hm2, hF2, hz2⟩ := f4_alloc w2 0 0 0 0
  rw [← eV2]
  replace eV2 := Lib.hid eV2
  have hN3 := hN2.keep hm2
  have hH3 := hH2.bel hm2
  have bs4 := bs3.trans (.of_below hm2)
  obtain ⟨s2, es2⟩ : ∃ x, x = w2.heap.size := ⟨_, rfl⟩
  rw [← es2] at hF2 ⊢
  have hs2 : b < s2 := by omega
  replace es2 := Lib.hid es2
  replace hs2 := Lib.hid hs2
  clear hN2 hH2 bs3 hb2 hm2 hz2
  have A9 := Lib.hid (aadd64 b 9 re V2 (hH3.c 9 _ rfl) (hH3.f 9 (by simp [lkC])) hr0.1 hr0.2)
  obtain ⟨U, eU, hH5, hO5⟩ : ∃ u, u = V2.setCell ⟨b, 9, none⟩ (.int .i64 (re + 1)) ∧ Held b (lkC id pa i' s' v' t' kn' A ta (re + 1)) u ∧ Only b V2 u := ⟨_, rfl, hH3.set 9 _ (by simp [lkC]), (Only.refl b V2).setCell (p := ⟨b, 9, none⟩) _⟩
  have hN5 := Lib.hid (hN3.only hO5 (by have := hlt.out; omega))
  have bs5 := Lib.hid (bs4.trans (.of_only hO5))
  replace hH5 := Lib.hid hH5
  clear hN3 hH3 bs4 hO5 hF2
  go_wp2_with fail
  refine A9.out.mono ?_
  rintro e w5 ⟨rfl, rfl⟩
  rw [← eU]
  replace eU := Lib.hid eU
  obtain ⟨u9, e9, hF8, hb9⟩ := (hN5.out).laid 0 0 0 0
  have z0 := hF8.c0
  have z1 := hF8.c1
  have z2 := hF8.c2
  have z3 := hF8.c3
  rw [e9] at z0 z1 z2 z3
  have hR := Lib.hid (hH5.out.below hb9 hlt.out)
  have hBs := Lib.hid (bs5.out.last hb9)
  rw [e9] at hR hBs
  clear e9 hF8 hb9
  obtain ⟨q0, q1, q2, q3, p0, p1, p2, p3, -⟩ := hN5.out
  go_wp2
  refine bodyPost_ret (v := .tuple #[.agg #[.int .i64 0, .int .i64 0, .int .i64 0, .int .i64 0], .int .i64 ee]) (by simp [results, Try.results113, go_sem, z0, z1, z2, z3]) rfl ?_
  exact ⟨rfl, hR.out, hBs.out⟩
set_option maxRecDepth 100000 in
set_option maxHeartbeats 8000000 in
theorem lkstep_fine {id pa i s v t ag ta re : Int} {kn : Bool} {f0 f1 f2 f3 : Int} (b : Nat) (w : World) (h : Held b (lkC id pa i s v t kn ag ta re) w) (ha : 0 ≤ ag ∧ ag ≤ 1000000) (hr0 : 0 ≤ ta ∧ ta < 9223372036854775807) (l : List Int) (a : Option Addr) (cap : Nat) (hr : RowIs .u8 w a l) (hne : ∀ x, a = some x → x.block ≠ b) (hl : 0 < l.length) (hL : l.length ≤ maxLen) (RC : ∀ u, Held b (lkC id pa i s v t kn (agN ag) ta re) u → RowIs .u8 u a l → Calls Try.prog 128 #[.pointer (some ⟨b, 0, none⟩), .slice a l.length cap] u fun e w' => e = .returned (.tuple #[.agg #[.int .i64 f0, .int .i64 f1, .int .i64 f2, .int .i64 f3], .int .i64 0]) ∧ Held b (lkC id pa f0 f1 f2 f3 true (agN ag) ta re) w' ∧ Beside b u w') : Calls Try.prog 113 #[.pointer (some ⟨b, 0, none⟩), .slice a l.length cap] w fun e w' => e = .returned (.tuple #[.agg #[.int .i64 f0, .int .i64 f1, .int .i64 f2, .int .i64 f3], .int .i64 0]) ∧ Held b (lkC id pa f0 f1 f2 f3 true 0 (ta + 1) re) w' ∧ Beside b w w' := by
  obtain ⟨A, hA⟩ : ∃ A, A = agN ag := ⟨_, rfl⟩
  have n2 : (if 1000000 < ag + 1 then (1000000 : Int) else ag + 1) = A := hA.symm
  rw [← hA] at RC
  replace hA := Lib.hid hA
  have n1 : IntKind.i64.wrap (ag + 1) = ag + 1 := by rw [IntKind.wrap_i64]; omega
  obtain ⟨V0, eV0, hb0, hN0, hz0⟩ := f4_alloc w 0 0 0 0
  have hlt := h.lt
  have hH0 := h.bel hb0
  obtain ⟨U1, eU1, hH1, hO1⟩ : ∃ u, u = V0.setCell ⟨b, 7, none⟩ (.int .i64 A) ∧ Held b (lkC id pa i s v t kn A ta re) u ∧ Only b V0 u := ⟨_, rfl, hH0.set 7 _ (by simp [lkC]), (Only.refl b V0).setCell (p := ⟨b, 7, none⟩) _⟩
  have hN1 := Lib.hid (hN0.only hO1 (by omega))
  have bs1 := Lib.hid ((Beside.of_below (b := b) hb0).trans (.of_only hO1))
  have hr1 := (hr.below hb0).only hO1 hne
  have C := Lib.hid (RC _ hH1 hr1)
  have d6 : ((l.length : Int) == 0) = false := by simp; intro e; simp [e] at hl
  clear RC hr1 hr hne hl hL
  replace eV0 := Lib.hid eV0
  replace eU1 := Lib.hid eU1
  replace hlt := Lib.hid hlt
  replace hH1 := Lib.hid hH1
  clear hN0 hz0 h hb0 hO1
  have c7 := hH0.c 7 _ rfl
  have g7 := hH0.f 7 (by simp [lkC])
  clear hH0
  go_enter Try.func113, Try.ntmps113
  go_upto_region 1 with (fail)
  rw [← eV0.out]
  go_upto_region 4 with (fail)
  rw [← eU1.out]
  clear c7 g7
  go_wp2_with fail
  refine C.out.mono ?_
  rintro e w2 ⟨rfl, hH2, bs2⟩
  have hN2 := hN1.out.beside bs2 (by have := hlt.out; omega)
  have bs3 := bs1.out.trans bs2
  have hb2 := hH2.lt
  clear hN1 hH1 bs1 bs2 eU1
  go_upto_region 7 with (fail)
  obtain ⟨V2, eV2, hm2, hF2, hz2⟩ := f4_alloc w2 f0 f1 f2 f3
  rw [← eV2]
  replace eV2 := Lib.hid eV2
  have hN3 := hN2.keep hm2
  have hH3 := hH2.bel hm2
  have bs4 := bs3.trans (.of_below hm2)
  obtain ⟨s2, es2⟩ : ∃ x, x = w2.heap.size := ⟨_, rfl⟩
  rw [← es2] at hF2 ⊢
  have hs2 : b < s2 := by omega
  replace es2 := Lib.hid es2
  replace hs2 := Lib.hid hs2
  clear hN2 hH2 bs3 hb2 hm2 hz2
  obtain ⟨U0, eU0, hH4, hO4⟩ : ∃ u, u = V2.setCell ⟨b, 7, none⟩ (.int .i64 0) ∧ Held b (lkC id pa f0 f1 f2 f3 true 0 ta re) u ∧ Only b V2 u := ⟨_, rfl, hH3.set 7 _ (by simp [lkC]), (Only.refl b V2).setCell (p := ⟨b, 7, none⟩) _⟩
  have A9 := Lib.hid (aadd64 b 8 ta U0 (hH4.c 8 _ rfl) (hH4.f 8 (by simp [lkC])) hr0.1 hr0.2)
  obtain ⟨U, eU, hH5, hO5⟩ : ∃ u, u = U0.setCell ⟨b, 8, none⟩ (.int .i64 (ta + 1)) ∧ Held b (lkC id pa f0 f1 f2 f3 true 0 (ta + 1) re) u ∧ Only b U0 u := ⟨_, rfl, hH4.set 8 _ (by simp [lkC]), (Only.refl b U0).setCell (p := ⟨b, 8, none⟩) _⟩
  have hN5 := Lib.hid ((hN3.only hO4 (by have := hlt.out; omega)).only hO5 (by have := hlt.out; omega))
  have hF5 := (hF2.only hO4 (by have := hs2.out; omega)).only hO5 (by have := hs2.out; omega)
  have bs5 := Lib.hid ((bs4.trans (.of_only hO4)).trans (.of_only hO5))
  replace hH5 := Lib.hid hH5
  have c7 := hH3.c 7 _ rfl
  have g7 := hH3.f 7 (by simp [lkC])
  clear hN3 bs4 hO5 hO4 hF2 hH3 hH4
  replace hF5 := Lib.hid hF5
  replace eU0 := Lib.hid eU0
  replace eU := Lib.hid eU
  go_upto_region 11 with (fail)
  rw [← eU0.out]
  clear c7 g7
  go_wp2_with fail
  refine A9.out.mono ?_
  rintro e w5 ⟨rfl, rfl⟩
  rw [← eU.out]
  obtain ⟨j0, j1, j2, j3, -, -, -, -, -⟩ := hF5.out
  obtain ⟨u9, e9, hF8, hb9⟩ := (hN5.out).laid f0 f1 f2 f3
  have z0 := hF8.c0
  have z1 := hF8.c1
  have z2 := hF8.c2
  have z3 := hF8.c3
  rw [e9] at z0 z1 z2 z3
  have hR := Lib.hid (hH5.out.below hb9 hlt.out)
  have hBs := Lib.hid (bs5.out.last hb9)
  rw [e9] at hR hBs
  clear e9 hF8 hb9
  obtain ⟨q0, q1, q2, q3, p0, p1, p2, p3, -⟩ := hN5.out
  go_wp2
  refine bodyPost_ret (v := .tuple #[.agg #[.int .i64 f0, .int .i64 f1, .int .i64 f2, .int .i64 f3], .int .i64 0]) (by simp [results, Try.results113, go_sem, z0, z1, z2, z3]) rfl ?_
  exact ⟨rfl, hR.out, hBs.out⟩
end Go.Proofs.Ytbbmkmkalghaeaa
