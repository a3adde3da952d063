/- Package sensor: New, Last, Stale, a step; the chapter's example. -/
import Derived.Test.YtbbmkmkalghaeaaSensor1
namespace Go.Proofs.Ytbbmkmkalghaeaa
open Go.ChangeShapes Go.WideShapes Go.ChangeAt Go.RowKit
set_option linter.unusedVariables false
set_option linter.unusedSimpArgs false

theorem sstale_nil (w : World) : Calls Try.prog 20 #[.pointer none] w fun e w' => e = .returned (.bool true) ∧ w = w' := by
  go_enter Try.func20, Try.ntmps20
  go_wp2
  go_ret
  exact ⟨rfl, rfl⟩
theorem slast_nil (w : World) : Calls Try.prog 18 #[.pointer none] w fun e w' => e = .returned (.tuple #[.int .i64 0, .bool false]) ∧ w = w' := by
  go_enter Try.func18, Try.ntmps18
  go_wp2
  go_ret2
  exact ⟨rfl, rfl⟩
theorem sreset_nil (w : World) : Calls Try.prog 17 #[.pointer none] w fun e w' => e = .returned (.tuple #[]) ∧ w = w' := by
  go_enter Try.func17, Try.ntmps17
  go_wp2
  refine bodyPost_ret (results_none rfl _ _ _) rfl ?_
  exact ⟨rfl, rfl⟩
theorem sstep_nil (a : Value) (w : World) : Calls Try.prog 19 #[.pointer none, a] w fun e w' => e = .returned (.agg #[.int .i64 0, .int .i64 1]) ∧ Below w.heap.size w w' := by
  go_enter Try.func19, Try.ntmps19
  go_wp2
  exact bodyPost_ret (v := .agg #[.int .i64 0, .int .i64 1]) (by simp [results, Try.results19, go_sem]) rfl ⟨rfl, (by repeat (first | exact Below.refl _ _ | assumption | apply Below.drew | apply below_drewN | (refine Below.alloc ?_ (by first | exact Nat.le_refl _ | omega | (simp <;> omega)) _) | (refine Below.setCell ?_ (by first | exact Nat.le_refl _ | omega | (simp <;> omega)) _)))⟩
set_option maxHeartbeats 1000000 in
theorem sstale_any {b l g y : Nat} {ga of sl dr id pa i s v t ag ta re : Int} {kn : Bool} {G Y : List Value} (w : World) (S : Sn b l g y ga of sl dr (lkC id pa i s v t kn ag ta re) G Y w) :
    Calls Try.prog 20 #[.pointer (some ⟨b, 0, none⟩)] w fun e w' => e = .returned (.bool (decide (pa < ag))) ∧ w' = w.drew := by
  have so := S.o
  obtain ⟨c0, z0⟩ := so.one 0 rfl
  obtain ⟨c1, z1⟩ := so.one 1 rfl
  obtain ⟨c2, z2⟩ := so.one 2 rfl
  obtain ⟨c3, z3⟩ := so.one 3 rfl
  obtain ⟨c4, z4⟩ := so.one 4 rfl
  obtain ⟨c5, z5⟩ := so.one 5 rfl
  obtain ⟨c6, z6⟩ := so.one 6 rfl
  have SL := Lib.hid (lkstale l w S.hl)
  clear so S
  generalize decide (pa < ag) = r at *
  go_enter Try.func20, Try.ntmps20
  go_wp2_with fail
  refine SL.out.mono ?_
  rintro e w1 ⟨rfl, rfl⟩
  go_wp2
  go_ret
  exact ⟨rfl, rfl⟩
set_option maxHeartbeats 1000000 in
theorem slast_any {b l g y : Nat} {ga of sl dr lo hi ra la tk : Int} {gk : Bool} {L Y : List Value} (w : World) (S : Sn b l g y ga of sl dr L (gaC lo hi ra la gk tk) Y w) :
    Calls Try.prog 18 #[.pointer (some ⟨b, 0, none⟩)] w fun e w' => e = .returned (.tuple #[.int .i64 la, .bool gk]) ∧ w' = w.drew := by
  have so := S.o
  obtain ⟨c0, z0⟩ := so.one 0 rfl
  obtain ⟨c1, z1⟩ := so.one 1 rfl
  obtain ⟨c2, z2⟩ := so.one 2 rfl
  obtain ⟨c3, z3⟩ := so.one 3 rfl
  obtain ⟨c4, z4⟩ := so.one 4 rfl
  obtain ⟨c5, z5⟩ := so.one 5 rfl
  obtain ⟨c6, z6⟩ := so.one 6 rfl
  have SL := Lib.hid (glast_any g w S.hg)
  clear so S
  go_enter Try.func18, Try.ntmps18
  go_wp2_with fail
  refine SL.out.mono ?_
  rintro e w1 ⟨rfl, rfl⟩
  go_wp2
  go_ret2
  exact ⟨rfl, rfl⟩

theorem rd_box (w : World) : ∃ V, V = w.alloc (.cells #[.int .i64 0, .int .i64 0] 36) ∧ Below w.heap.size w V ∧ Held w.heap.size [.int .i64 0, .int .i64 0] V ∧ V.heap.size = w.heap.size + 1 :=
  ⟨_, rfl, (by repeat (first | exact Below.refl _ _ | assumption | apply Below.drew | apply below_drewN | (refine Below.alloc ?_ (by first | exact Nat.le_refl _ | omega | (simp <;> omega)) _) | (refine Below.setCell ?_ (by first | exact Nat.le_refl _ | omega | (simp <;> omega)) _))), Held.new w [.int .i64 0, .int .i64 0] _, by simp⟩

theorem Bes.low {l g y : Nat} {w u u' : World} (h : Bes l g y w u) (k : Below w.heap.size u u') : Bes l g y w u' :=
  ⟨k.os.trans h.os, k.tape.trans h.tape, k.output.trans h.output, Nat.le_trans h.size k.size, fun i hi h1 h2 h3 => (k.block i hi).trans (h.block i hi h1 h2 h3)⟩
theorem Sn.low {B b l g y : Nat} {ga of sl dr : Int} {L G Y : List Value} {w w' : World} (h : Sn b l g y ga of sl dr L G Y w) (k : Below B w w') (h1 : b < B) (h2 : l < B) (h3 : g < B) (h4 : y < B) : Sn b l g y ga of sl dr L G Y w' :=
  ⟨h.o.below k h1, h.hl.below k h2, h.hg.below k h3, h.hy.below k h4, h.bl, h.bg, h.by', h.lg, h.ly, h.gy⟩
theorem rd_laid {s : Nat} {u : World} {p q : Value} (h : Held s [p, q] u) (V E : Int) : ∃ u9, u9 = (u.setCell ⟨s, 0, none⟩ (.int .i64 V)).setCell ⟨s, 1, none⟩ (.int .i64 E) ∧ u9.cell? ⟨s, 0, none⟩ = some (.int .i64 V) ∧ u9.cell? ⟨s, 1, none⟩ = some (.int .i64 E) ∧ Below s u u9 := by
  have k := (h.set 0 (.int .i64 V) (by simp)).set 1 (.int .i64 E) (by simp)
  exact ⟨_, rfl, k.c 0 _ rfl, k.c 1 _ rfl, ((Below.refl _ _).setCell (by exact Nat.le_refl _) _).setCell (by exact Nat.le_refl _) _⟩
/-- What a step ends with: its answer, the sensor behind it, and what has been kept. -/
def SnE (b l g y : Nat) (ga of sl dr : Int) (L G Y : List Value) (V E : Int) (w : World) (e : Ending) (w' : World) : Prop := e = .returned (.agg #[.int .i64 V, .int .i64 E]) ∧ Sn b l g y ga of sl dr L G Y w' ∧ Bes l g y w w'

/-- A step whose bytes don't count. -/
theorem sstep_no {b l g y : Nat} {ga of sl dr id pa i s v t ag ta re sh yv x0 ee : Int} {kn yk : Bool} {L G G' : List Value} {a : Option Addr} {n cap : Nat} (w : World) (S : Sn b l g y ga of sl dr L G (lgC sh yv yk) w) (hE : ee ≠ 0)
    (HA : ∀ u, Sn b l g y ga of sl dr L G (lgC sh yv yk) u → Below w.heap.size w u → Calls Try.prog 77 #[.pointer (some ⟨b, 0, none⟩), .slice a n cap] u fun e w' => e = .returned (.tuple #[.int .i64 x0, .int .i64 ee]) ∧ Sn b l g y ga of sl dr (lkC id pa i s v t kn ag ta re) G' (lgC sh yv yk) w' ∧ Bes l g y u w') {E : Int} (eE : E = if pa < ag then 6 else ee) :
    Calls Try.prog 19 #[.pointer (some ⟨b, 0, none⟩), .slice a n cap] w (SnE b l g y ga of sl dr (lkC id pa i s v t kn ag ta re) G' (lgC sh yv yk) yv E w) := by
  have d5 : (ee == 0) = false := by simp [hE]
  obtain ⟨V, eV, hb0, hN0, hz⟩ := rd_box w
  have S0 := S.bel hb0
  have AC := Lib.hid (HA V S0 hb0)
  have B0 := Lib.hid (Bes.bel (l := l) (g := g) (y := y) hb0)
  have n0 := S.o.lt
  have n1 := S.hl.lt
  have n2 := S.hg.lt
  have n3 := S.hy.lt
  have NB := Lib.hid (fun u u' (h : Held w.heap.size [.int .i64 0, .int .i64 0] u) (k : Bes l g y u u') => h.bes k (by omega) (by omega) (by omega))
  have SW := Lib.hid (fun (Y' : List Value) u u' (h : Sn b l g y ga of sl dr (lkC id pa i s v t kn ag ta re) G' Y' u) (k : Below w.heap.size u u') => h.low k n0 n1 n2 n3)
  replace hN0 := Lib.hid hN0
  replace eV := Lib.hid eV
  clear S HA hb0 hz n0 n1 n2 n3 S0
  unfold SnE
  by_cases hp : pa < ag
  · rw [if_pos hp] at eE
    subst eE
    go_enter Try.func19, Try.ntmps19
    go_upto_region 1 with (fail)
    rw [← eV.out]
    go_wp2_with fail
    refine AC.out.mono ?_
    rintro e w1 ⟨rfl, S1, B1⟩
    have hN1 := Lib.hid (NB.out V w1 hN0.out B1)
    have BB1 := Lib.hid (B0.out.trans B1)
    have so := S1.o
    obtain ⟨c0, z0⟩ := so.one 0 rfl
    obtain ⟨c1, z1⟩ := so.one 1 rfl
    obtain ⟨c2, z2⟩ := so.one 2 rfl
    obtain ⟨c3, z3⟩ := so.one 3 rfl
    obtain ⟨c4, z4⟩ := so.one 4 rfl
    obtain ⟨c5, z5⟩ := so.one 5 rfl
    obtain ⟨c6, z6⟩ := so.one 6 rfl
    clear so B1
    have SL := sstale_any w1 S1
    rw [show decide (pa < ag) = true by simp; omega] at SL
    replace SL := Lib.hid SL
    replace S1 := Lib.hid S1
    go_wp2_with fail
    refine SL.out.mono ?_
    rintro e w2 ⟨rfl, rfl⟩
    go_wp2_with fail
    refine (lgval_any y _ S1.out.drew.hy).mono ?_
    rintro e w3 ⟨rfl, rfl⟩
    clear c0 c1 c2 c3 c4 c5 c6 z0 z1 z2 z3 z4 z5 z6 SL
    have S3 := Lib.hid S1.out.drew.drew
    have B3 := Lib.hid (BB1.out.trans (Bes.bel (Below.refl _ _).drew.drew))
    have hN3 := hN1.out.drew.drew
    clear hN1 S1 BB1
    generalize w1.drew.drew = w3 at *
    obtain ⟨u9, e9, y0, y1, hl9⟩ := rd_laid hN3 yv 6
    replace e9 := Lib.hid e9
    have S9 := Lib.hid (SW.out _ _ u9 S3.out hl9)
    have B9 := Lib.hid (B3.out.low hl9)
    obtain ⟨p0, q0⟩ := hN3.one 0 rfl
    obtain ⟨p1, q1⟩ := hN3.one 1 rfl
    clear hN3 hl9
    go_wp2
    rw [← e9.out]
    exact bodyPost_ret (v := .agg #[.int .i64 yv, .int .i64 6]) (by simp [results, Try.results19, go_sem, y0, y1]) rfl ⟨rfl, S9.out, B9.out⟩
  · rw [if_neg hp] at eE
    subst eE
    go_enter Try.func19, Try.ntmps19
    go_upto_region 1 with (fail)
    rw [← eV.out]
    go_wp2_with fail
    refine AC.out.mono ?_
    rintro e w1 ⟨rfl, S1, B1⟩
    have hN1 := Lib.hid (NB.out V w1 hN0.out B1)
    have BB1 := Lib.hid (B0.out.trans B1)
    have so := S1.o
    obtain ⟨c0, z0⟩ := so.one 0 rfl
    obtain ⟨c1, z1⟩ := so.one 1 rfl
    obtain ⟨c2, z2⟩ := so.one 2 rfl
    obtain ⟨c3, z3⟩ := so.one 3 rfl
    obtain ⟨c4, z4⟩ := so.one 4 rfl
    obtain ⟨c5, z5⟩ := so.one 5 rfl
    obtain ⟨c6, z6⟩ := so.one 6 rfl
    clear so B1
    have SL := sstale_any w1 S1
    rw [show decide (pa < ag) = false by simp; omega] at SL
    replace SL := Lib.hid SL
    replace S1 := Lib.hid S1
    go_wp2_with fail
    refine SL.out.mono ?_
    rintro e w2 ⟨rfl, rfl⟩
    go_wp2_with fail
    refine (lgval_any y _ S1.out.drew.hy).mono ?_
    rintro e w3 ⟨rfl, rfl⟩
    clear c0 c1 c2 c3 c4 c5 c6 z0 z1 z2 z3 z4 z5 z6 SL
    have S3 := Lib.hid S1.out.drew.drew
    have B3 := Lib.hid (BB1.out.trans (Bes.bel (Below.refl _ _).drew.drew))
    have hN3 := hN1.out.drew.drew
    clear hN1 S1 BB1
    generalize w1.drew.drew = w3 at *
    obtain ⟨u9, e9, y0, y1, hl9⟩ := rd_laid hN3 yv E
    replace e9 := Lib.hid e9
    have S9 := Lib.hid (SW.out _ _ u9 S3.out hl9)
    have B9 := Lib.hid (B3.out.low hl9)
    obtain ⟨p0, q0⟩ := hN3.one 0 rfl
    obtain ⟨p1, q1⟩ := hN3.one 1 rfl
    clear hN3 hl9
    go_wp2
    rw [← e9.out]
    exact bodyPost_ret (v := .agg #[.int .i64 yv, .int .i64 E]) (by simp [results, Try.results19, go_sem, y0, y1]) rfl ⟨rfl, S9.out, B9.out⟩
/-- A step whose bytes count. -/
theorem sstep_yes {b l g y : Nat} {ga of sl dr id pa i s v t ag ta re sh yv x0 ee : Int} {kn yk : Bool} {L G G' : List Value} {a : Option Addr} {n cap : Nat} (w : World) (S : Sn b l g y ga of sl dr L G (lgC sh yv yk) w) (hE : ee = 0)
    (HA : ∀ u, Sn b l g y ga of sl dr L G (lgC sh yv yk) u → Below w.heap.size w u → Calls Try.prog 77 #[.pointer (some ⟨b, 0, none⟩), .slice a n cap] u fun e w' => e = .returned (.tuple #[.int .i64 x0, .int .i64 ee]) ∧ Sn b l g y ga of sl dr (lkC id pa i s v t kn ag ta re) G' (lgC sh yv yk) w' ∧ Bes l g y u w') (h0 : 0 ≤ sh) (h1 : sh ≤ 16) (y1 : -549755813887 ≤ yv) (y2 : yv ≤ 549755813887) {Z : Int} (eZ : Z = lgV sh (if yk then yv else clq x0) (clq x0)) :
    Calls Try.prog 19 #[.pointer (some ⟨b, 0, none⟩), .slice a n cap] w (SnE b l g y ga of sl dr (lkC id pa i s v t kn ag ta re) G' (lgC sh Z true) Z 0 w) := by
  subst hE
  have LG := fun u hu => lgstep_any (sh := sh) (y := yv) (kn := yk) y x0 u hu h0 h1 y1 y2
  rw [← eZ] at LG
  replace LG := Lib.hid LG
  clear eZ
  obtain ⟨V, eV, hb0, hN0, hz⟩ := rd_box w
  have S0 := S.bel hb0
  have AC := Lib.hid (HA V S0 hb0)
  have B0 := Lib.hid (Bes.bel (l := l) (g := g) (y := y) hb0)
  have n0 := S.o.lt
  have n1 := S.hl.lt
  have n2 := S.hg.lt
  have n3 := S.hy.lt
  have NB := Lib.hid (fun u u' (h : Held w.heap.size [.int .i64 0, .int .i64 0] u) (k : Bes l g y u u') => h.bes k (by omega) (by omega) (by omega))
  have SW := Lib.hid (fun (Y' : List Value) u u' (h : Sn b l g y ga of sl dr (lkC id pa i s v t kn ag ta re) G' Y' u) (k : Below w.heap.size u u') => h.low k n0 n1 n2 n3)
  replace hN0 := Lib.hid hN0
  replace eV := Lib.hid eV
  clear S HA hb0 hz n0 n1 n2 n3 S0
  unfold SnE
  go_enter Try.func19, Try.ntmps19
  go_upto_region 1 with (fail)
  rw [← eV.out]
  go_wp2_with fail
  refine AC.out.mono ?_
  rintro e w1 ⟨rfl, S1, B1⟩
  have hN1 := Lib.hid (NB.out V w1 hN0.out B1)
  have BB1 := Lib.hid (B0.out.trans B1)
  have so := S1.o
  obtain ⟨c0, z0⟩ := so.one 0 rfl
  obtain ⟨c1, z1⟩ := so.one 1 rfl
  obtain ⟨c2, z2⟩ := so.one 2 rfl
  obtain ⟨c3, z3⟩ := so.one 3 rfl
  obtain ⟨c4, z4⟩ := so.one 4 rfl
  obtain ⟨c5, z5⟩ := so.one 5 rfl
  obtain ⟨c6, z6⟩ := so.one 6 rfl
  clear so B1
  replace S1 := Lib.hid S1
  go_wp2_with fail
  refine (LG.out _ S1.out.hy).mono ?_
  rintro e w3 ⟨rfl, k3, o3⟩
  clear c0 c1 c2 c3 c4 c5 c6 z0 z1 z2 z3 z4 z5 z6
  have hB3 := Bes.one (l := l) (g := g) o3 (.inr (.inr rfl))
  have S3 := Lib.hid (S1.out.lag k3 o3)
  have B3 := Lib.hid (BB1.out.trans hB3)
  have hNN := Lib.hid (NB.out _ _ hN1.out hB3)
  clear hB3 k3 o3
  have hN3 := hNN.out
  obtain ⟨u9, e9, y0, y1, hl9⟩ := rd_laid hN3 Z 0
  replace e9 := Lib.hid e9
  have S9 := Lib.hid (SW.out _ _ u9 S3.out hl9)
  have B9 := Lib.hid (B3.out.low hl9)
  obtain ⟨p0, q0⟩ := hN3.one 0 rfl
  obtain ⟨p1, q1⟩ := hN3.one 1 rfl
  clear hN3 hl9
  go_wp2
  rw [← e9.out]
  exact bodyPost_ret (v := .agg #[.int .i64 Z, .int .i64 0]) (by simp [results, Try.results19, go_sem, y0, y1]) rfl ⟨rfl, S9.out, B9.out⟩
end Go.Proofs.Ytbbmkmkalghaeaa
