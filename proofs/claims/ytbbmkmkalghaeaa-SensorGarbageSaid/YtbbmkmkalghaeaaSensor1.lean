/- Package sensor: the object; what a tick's bytes come to. -/
import Derived.Test.YtbbmkmkalghaeaaLink4
import Derived.Test.YtbbmkmkalghaeaaGate2
import Derived.Test.YtbbmkmkalghaeaaLag2
import Derived.Test.YtbbmkmkalghaeaaCal4
import Derived.Deep.Cut
namespace Go.Proofs.Ytbbmkmkalghaeaa
open Go.ChangeShapes Go.WideShapes Go.ChangeAt Go.RowKit
set_option linter.unusedVariables false
set_option linter.unusedSimpArgs false

/-- Of what there was nothing but the blocks l, g and y has changed; new memory may have come. -/
structure Bes (l g y : Nat) (w w' : World) : Prop where
  os : w'.os = w.os
  tape : w'.tape = w.tape
  output : w'.output = w.output
  size : w.heap.size ≤ w'.heap.size
  block : ∀ k, k < w.heap.size → k ≠ l → k ≠ g → k ≠ y → w'.heap[k]? = w.heap[k]?
theorem Bes.bel {l g y : Nat} {w w' : World} (h : Below w.heap.size w w') : Bes l g y w w' := ⟨h.os, h.tape, h.output, h.size, fun k hk _ _ _ => h.block k hk⟩
theorem Bes.one {l g y b : Nat} {w w' : World} (h : Beside b w w') (hb : b = l ∨ b = g ∨ b = y) : Bes l g y w w' := ⟨h.os, h.tape, h.output, h.size, fun k hk h1 h2 h3 => h.block k hk (by rcases hb with e | e | e <;> omega)⟩
theorem Bes.trans {l g y : Nat} {u v w : World} (h : Bes l g y u v) (k : Bes l g y v w) : Bes l g y u w :=
  ⟨k.os.trans h.os, k.tape.trans h.tape, k.output.trans h.output, Nat.le_trans h.size k.size, fun i hi h1 h2 h3 => (k.block i (Nat.lt_of_lt_of_le hi h.size) h1 h2 h3).trans (h.block i hi h1 h2 h3)⟩
theorem Bes.below {l g y B : Nat} {w w' : World} (h : Bes l g y w w') (hl : B ≤ l) (hg : B ≤ g) (hy : B ≤ y) (hs : B ≤ w.heap.size) : Below B w w' :=
  ⟨h.os, h.tape, h.output, h.size, fun k hk => h.block k (by omega) (by omega) (by omega) (by omega)⟩
theorem Held.bes {l g y b : Nat} {cs : List Value} {w w' : World} (h : Held b cs w) (k : Bes l g y w w') (h1 : b ≠ l) (h2 : b ≠ g) (h3 : b ≠ y) : Held b cs w' := by
  have e := k.block b h.lt h1 h2 h3
  exact ⟨Nat.lt_of_lt_of_le h.lt k.size, fun i v hv => (World.cell?_of_block (a := ⟨b, i, none⟩) e).trans (h.c i v hv), fun i hi => (World.frozen?_of_block (a := ⟨b, i, none⟩) e).trans (h.f i hi)⟩

def snC (l g y : Nat) (ga of sl dr : Int) : List Value := [.pointer (some ⟨l, 0, none⟩), .pointer (some ⟨g, 0, none⟩), .pointer (some ⟨y, 0, none⟩), .int .i64 ga, .int .i64 of, .int .i64 sl, .int .i64 dr]
/-- A sensor: its own block, and those of its link, gate and lag. -/
structure Sn (b l g y : Nat) (ga of sl dr : Int) (L G Y : List Value) (w : World) : Prop where
  o : Held b (snC l g y ga of sl dr) w
  hl : Held l L w
  hg : Held g G w
  hy : Held y Y w
  bl : b ≠ l
  bg : b ≠ g
  by' : b ≠ y
  lg : l ≠ g
  ly : l ≠ y
  gy : g ≠ y
theorem Sn.bel {b l g y : Nat} {ga of sl dr : Int} {L G Y : List Value} {w w' : World} (h : Sn b l g y ga of sl dr L G Y w) (k : Below w.heap.size w w') : Sn b l g y ga of sl dr L G Y w' :=
  ⟨h.o.bel k, h.hl.bel k, h.hg.bel k, h.hy.bel k, h.bl, h.bg, h.by', h.lg, h.ly, h.gy⟩
theorem Sn.drew {b l g y : Nat} {ga of sl dr : Int} {L G Y : List Value} {w : World} (h : Sn b l g y ga of sl dr L G Y w) : Sn b l g y ga of sl dr L G Y w.drew := h.bel (Below.refl _ _).drew
theorem Sn.link {b l g y : Nat} {ga of sl dr : Int} {L G Y L' : List Value} {w w' : World} (h : Sn b l g y ga of sl dr L G Y w) (q : Held l L' w') (k : Beside l w w') : Sn b l g y ga of sl dr L' G Y w' :=
  ⟨h.o.beside k h.bl, q, h.hg.beside k h.lg.symm, h.hy.beside k h.ly.symm, h.bl, h.bg, h.by', h.lg, h.ly, h.gy⟩
theorem Sn.gate {b l g y : Nat} {ga of sl dr : Int} {L G Y G' : List Value} {w w' : World} (h : Sn b l g y ga of sl dr L G Y w) (q : Held g G' w') (k : Beside g w w') : Sn b l g y ga of sl dr L G' Y w' :=
  ⟨h.o.beside k h.bg, h.hl.beside k h.lg, q, h.hy.beside k h.gy.symm, h.bl, h.bg, h.by', h.lg, h.ly, h.gy⟩
theorem Sn.lag {b l g y : Nat} {ga of sl dr : Int} {L G Y Y' : List Value} {w w' : World} (h : Sn b l g y ga of sl dr L G Y w) (q : Held y Y' w') (k : Beside y w w') : Sn b l g y ga of sl dr L G Y' w' :=
  ⟨h.o.beside k h.by', h.hl.beside k h.ly, h.hg.beside k h.gy, q, h.bl, h.bg, h.by', h.lg, h.ly, h.gy⟩

/-- What a link tells of bytes. -/
def LS (l : Nat) (L L' : List Value) (a : Option Addr) (n cap : Nat) (f0 f1 f2 f3 ee : Int) (w : World) : Prop :=
  Calls Try.prog 113 #[.pointer (some ⟨l, 0, none⟩), .slice a n cap] w fun e w' => e = .returned (.tuple #[.agg #[.int .i64 f0, .int .i64 f1, .int .i64 f2, .int .i64 f3], .int .i64 ee]) ∧ Held l L' w' ∧ Beside l w w'
set_option maxRecDepth 100000 in
set_option maxHeartbeats 4000000 in
theorem saccept_err {b l g y : Nat} {ga of sl dr lo hi ra la tk : Int} {gk : Bool} {L L' Y : List Value} {a : Option Addr} {n cap : Nat} {f0 f1 f2 f3 ee : Int} (w : World) (S : Sn b l g y ga of sl dr L (gaC lo hi ra la gk tk) Y w) (HL : LS l L L' a n cap f0 f1 f2 f3 ee w) (hE : ee ≠ 0) (t0 : 0 ≤ tk) (t1 : tk ≤ 1000) :
    Calls Try.prog 77 #[.pointer (some ⟨b, 0, none⟩), .slice a n cap] w fun e w' => e = .returned (.tuple #[.int .i64 0, .int .i64 ee]) ∧ Sn b l g y ga of sl dr L' (gaC lo hi ra la gk (gaT tk)) Y w' ∧ Bes l g y w w' := by
  have d5 : (ee != 0) = true := by simp [hE]
  have MS := Lib.hid (fun u hu => gmiss_any (lo := lo) (hi := hi) (ra := ra) (la := la) (kn := gk) (tk := tk) g u hu t0 t1)
  have so := S.o
  obtain ⟨c0, z0⟩ := so.one 0 rfl
  obtain ⟨c1, z1⟩ := so.one 1 rfl
  obtain ⟨c2, z2⟩ := so.one 2 rfl
  obtain ⟨c3, z3⟩ := so.one 3 rfl
  obtain ⟨c4, z4⟩ := so.one 4 rfl
  obtain ⟨c5, z5⟩ := so.one 5 rfl
  obtain ⟨c6, z6⟩ := so.one 6 rfl
  clear so
  replace S := Lib.hid S
  replace HL := Lib.hid HL
  go_enter Try.func77, Try.ntmps77
  go_wp2_with fail
  have hl' := HL.out
  unfold LS at hl'
  refine hl'.mono ?_
  rintro e w1 ⟨rfl, k1, o1⟩
  have S1 := S.out.link k1 o1
  have B1 := Lib.hid (Bes.one (g := g) (y := y) o1 (.inl rfl))
  clear c0 c1 c2 c3 c4 c5 c6 z0 z1 z2 z3 z4 z5 z6 k1 o1 S HL
  go_upto_region 2 with (fail)
  obtain ⟨V1, eV1, hm1, hF1, hz1⟩ := f4_alloc w1 f0 f1 f2 f3
  rw [← eV1]
  replace eV1 := Lib.hid eV1
  have S2 := S1.bel hm1
  have B2 := Lib.hid (B1.out.trans (Bes.bel hm1))
  clear hF1 hm1 hz1 B1 S1
  have so := S2.o
  obtain ⟨c0, z0⟩ := so.one 0 rfl
  obtain ⟨c1, z1⟩ := so.one 1 rfl
  obtain ⟨c2, z2⟩ := so.one 2 rfl
  obtain ⟨c3, z3⟩ := so.one 3 rfl
  obtain ⟨c4, z4⟩ := so.one 4 rfl
  obtain ⟨c5, z5⟩ := so.one 5 rfl
  obtain ⟨c6, z6⟩ := so.one 6 rfl
  clear so
  replace S2 := Lib.hid S2
  go_wp2_with fail
  refine (MS.out _ S2.out.hg).mono ?_
  rintro e w2 ⟨rfl, k3, o3⟩
  have S3 := Lib.hid (S2.out.gate k3 o3)
  have B3 := Lib.hid (B2.out.trans (Bes.one (l := l) (y := y) o3 (.inr (.inl rfl))))
  clear c0 c1 c2 c3 c4 c5 c6 z0 z1 z2 z3 z4 z5 z6 k3 o3 S2 B2
  go_wp2
  go_ret2
  exact ⟨rfl, S3.out, B3.out⟩
set_option maxRecDepth 100000 in
set_option maxHeartbeats 4000000 in
theorem saccept_ok {b l g y : Nat} {ga of sl dr lo hi ra la tk : Int} {gk : Bool} {L L' Y : List Value} {a : Option Addr} {n cap : Nat} {f0 f1 f2 f3 : Int} (w : World) (S : Sn b l g y ga of sl dr L (gaC lo hi ra la gk tk) Y w) (HL : LS l L L' a n cap f0 f1 f2 f3 0 w) (cr : clR ga of sl dr = true) (ok : GaOk lo hi ra) (t0 : 0 ≤ tk) (t1 : tk ≤ 1000) (l0 : -549755813887 ≤ la) (l1 : la ≤ 549755813887) {V E A N : Int} {B : Bool} (eV : V = clV ga of sl dr f2 f3) (eE : E = gaE lo hi ra la gk (gaT tk) V) (eA : A = gaA E V la) (eB : B = gaB E gk) (eN : N = gaN E (gaT tk)) :
    Calls Try.prog 77 #[.pointer (some ⟨b, 0, none⟩), .slice a n cap] w fun e w' => e = .returned (.tuple #[.int .i64 V, .int .i64 E]) ∧ Sn b l g y ga of sl dr L' (gaC lo hi ra A B N) Y w' ∧ Bes l g y w w' := by
  have CA := fun u => cat_ok cr f2 f3 u
  have GC := fun v u hu => gcheck_any (lo := lo) (hi := hi) (ra := ra) (la := la) (kn := gk) (tk := tk) g v u hu ok t0 t1 l0 l1
  rw [← eV] at CA
  replace GC := GC V
  rw [← eE, ← eA, ← eB, ← eN] at GC
  replace GC := Lib.hid GC
  replace CA := Lib.hid CA
  clear eV eE eA eB eN ok cr t0 t1
  have so := S.o
  obtain ⟨c0, z0⟩ := so.one 0 rfl
  obtain ⟨c1, z1⟩ := so.one 1 rfl
  obtain ⟨c2, z2⟩ := so.one 2 rfl
  obtain ⟨c3, z3⟩ := so.one 3 rfl
  obtain ⟨c4, z4⟩ := so.one 4 rfl
  obtain ⟨c5, z5⟩ := so.one 5 rfl
  obtain ⟨c6, z6⟩ := so.one 6 rfl
  clear so
  replace S := Lib.hid S
  replace HL := Lib.hid HL
  go_enter Try.func77, Try.ntmps77
  go_wp2_with fail
  have hl' := HL.out
  unfold LS at hl'
  refine hl'.mono ?_
  rintro e w1 ⟨rfl, k1, o1⟩
  have S1 := S.out.link k1 o1
  have B1 := Lib.hid (Bes.one (g := g) (y := y) o1 (.inl rfl))
  clear c0 c1 c2 c3 c4 c5 c6 z0 z1 z2 z3 z4 z5 z6 k1 o1 S HL hl'
  go_upto_region 2 with (fail)
  obtain ⟨V1, eV1, hm1, hF1, hz1⟩ := f4_alloc w1 f0 f1 f2 f3
  rw [← eV1]
  replace eV1 := Lib.hid eV1
  have S2 := S1.bel hm1
  have B2 := Lib.hid (B1.out.trans (Bes.bel hm1))
  obtain ⟨j0, j1, j2, j3, -, -, -, -, -⟩ := hF1
  obtain ⟨q, eq⟩ : ∃ q, q = w1.heap.size := ⟨_, rfl⟩
  rw [← eq] at j0 j1 j2 j3 ⊢
  clear hm1 hz1 B1 S1 eq
  have so := S2.o
  obtain ⟨c0, z0⟩ := so.one 0 rfl
  obtain ⟨c1, z1⟩ := so.one 1 rfl
  obtain ⟨c2, z2⟩ := so.one 2 rfl
  obtain ⟨c3, z3⟩ := so.one 3 rfl
  obtain ⟨c4, z4⟩ := so.one 4 rfl
  obtain ⟨c5, z5⟩ := so.one 5 rfl
  obtain ⟨c6, z6⟩ := so.one 6 rfl
  clear so
  replace S2 := Lib.hid S2
  go_wp2_with fail
  refine region_moves (fun u => u.cell? ⟨b, 3, none⟩ = some (.int .i64 ga) ∧ u.cell? ⟨b, 4, none⟩ = some (.int .i64 of) ∧ u.cell? ⟨b, 5, none⟩ = some (.int .i64 sl) ∧ u.cell? ⟨b, 6, none⟩ = some (.int .i64 dr) ∧ u.cell? ⟨q, 2, none⟩ = some (.int .i64 f2) ∧ u.cell? ⟨q, 3, none⟩ = some (.int .i64 f3)) [(8, [(3, 8), (5, 8), (7, 8), (2, 3), (4, 5), (6, 7), (1, 2), (0, 1)])] [(.free, 0), (.free, 1), (.free, 2), (.take, 3), (.free, 4), (.take, 5), (.free, 6), (.take, 7), (.late, 8), (.free, 9), (.free, 10), (.free, 11), (.free, 12), (.free, 13)] _ (by kernel_rfl) (by kernel_rfl) (by kernel_rfl) (by kernel_rfl) (by decide) rfl (fun _ _ _ _ _ h => h) ?_
  simp only [List.filterMap_cons, List.filterMap_nil, List.getElem?_toArray, List.getElem?_cons_zero, List.getElem?_cons_succ, Option.map_some]
  iterate 3
    first
      | (refine mv_free ?_ (Or.inl ⟨by rfl, ?_⟩) (⟨c3, c4, c5, c6, j2, j3⟩) ?_
         rotate_left 1
         · intro u
           go_simp
           try simp only [d1]
           try simp only [d2]
           try simp only [d3]
           try with_reducible rfl
         simp only [Act.put, List.setIfInBounds_toArray, List.set_cons_zero, List.set_cons_succ])
      | (refine mv_free _ (Or.inr ⟨by rfl, rfl⟩) (⟨c3, c4, c5, c6, j2, j3⟩) ?_
         simp only [Act.put, List.setIfInBounds_toArray, List.set_cons_zero, List.set_cons_succ])
  iterate 1
    first
      | (refine mv_take ?_ (Or.inl ⟨by rfl, ?_⟩) (⟨c3, c4, c5, c6, j2, j3⟩) ?_
         rotate_left 1
         · intro u hu
           (try dsimp only at hu)
           go_simp
           try with_reducible rfl
         simp only [Act.put, List.setIfInBounds_toArray, List.set_cons_zero, List.set_cons_succ])
      | (refine mv_take _ (Or.inr ⟨by rfl, rfl⟩) (⟨c3, c4, c5, c6, j2, j3⟩) ?_
         simp only [Act.put, List.setIfInBounds_toArray, List.set_cons_zero, List.set_cons_succ])
  iterate 1
    first
      | (refine mv_free ?_ (Or.inl ⟨by rfl, ?_⟩) (⟨c3, c4, c5, c6, j2, j3⟩) ?_
         rotate_left 1
         · intro u
           go_simp
           try simp only [d1]
           try simp only [d2]
           try simp only [d3]
           try with_reducible rfl
         simp only [Act.put, List.setIfInBounds_toArray, List.set_cons_zero, List.set_cons_succ])
      | (refine mv_free _ (Or.inr ⟨by rfl, rfl⟩) (⟨c3, c4, c5, c6, j2, j3⟩) ?_
         simp only [Act.put, List.setIfInBounds_toArray, List.set_cons_zero, List.set_cons_succ])
  iterate 1
    first
      | (refine mv_take ?_ (Or.inl ⟨by rfl, ?_⟩) (⟨c3, c4, c5, c6, j2, j3⟩) ?_
         rotate_left 1
         · intro u hu
           (try dsimp only at hu)
           go_simp
           try with_reducible rfl
         simp only [Act.put, List.setIfInBounds_toArray, List.set_cons_zero, List.set_cons_succ])
      | (refine mv_take _ (Or.inr ⟨by rfl, rfl⟩) (⟨c3, c4, c5, c6, j2, j3⟩) ?_
         simp only [Act.put, List.setIfInBounds_toArray, List.set_cons_zero, List.set_cons_succ])
  iterate 1
    first
      | (refine mv_free ?_ (Or.inl ⟨by rfl, ?_⟩) (⟨c3, c4, c5, c6, j2, j3⟩) ?_
         rotate_left 1
         · intro u
           go_simp
           try simp only [d1]
           try simp only [d2]
           try simp only [d3]
           try with_reducible rfl
         simp only [Act.put, List.setIfInBounds_toArray, List.set_cons_zero, List.set_cons_succ])
      | (refine mv_free _ (Or.inr ⟨by rfl, rfl⟩) (⟨c3, c4, c5, c6, j2, j3⟩) ?_
         simp only [Act.put, List.setIfInBounds_toArray, List.set_cons_zero, List.set_cons_succ])
  iterate 1
    first
      | (refine mv_take ?_ (Or.inl ⟨by rfl, ?_⟩) (⟨c3, c4, c5, c6, j2, j3⟩) ?_
         rotate_left 1
         · intro u hu
           (try dsimp only at hu)
           go_simp
           try with_reducible rfl
         simp only [Act.put, List.setIfInBounds_toArray, List.set_cons_zero, List.set_cons_succ])
      | (refine mv_take _ (Or.inr ⟨by rfl, rfl⟩) (⟨c3, c4, c5, c6, j2, j3⟩) ?_
         simp only [Act.put, List.setIfInBounds_toArray, List.set_cons_zero, List.set_cons_succ])
  refine mv_late (fun K hK => ?_)
  go_simp
  refine (CA.out _).mono ?_
  rintro e w2 ⟨rfl, hb2⟩
  have S3 := S2.out.drew.bel hb2
  have B3 := Lib.hid ((B2.out.trans (Bes.bel (Below.refl _ _).drew)).trans (Bes.bel hb2))
  clear c0 c1 c2 c3 c4 c5 c6 z0 z1 z2 z3 z4 z5 z6 S2 B2 hb2 j0 j1 j2 j3
  have so := S3.o
  obtain ⟨c0, z0⟩ := so.one 0 rfl
  obtain ⟨c1, z1⟩ := so.one 1 rfl
  obtain ⟨c2, z2⟩ := so.one 2 rfl
  obtain ⟨c3, z3⟩ := so.one 3 rfl
  obtain ⟨c4, z4⟩ := so.one 4 rfl
  obtain ⟨c5, z5⟩ := so.one 5 rfl
  obtain ⟨c6, z6⟩ := so.one 6 rfl
  clear so
  replace S3 := Lib.hid S3
  go_wp2_with fail
  refine hK.out (fun _ => True) _ _ ?_
  clear hK K
  iterate 5
    first
      | (refine mv_free ?_ (Or.inl ⟨by rfl, ?_⟩) (trivial) ?_
         rotate_left 1
         · intro u
           go_simp
           try simp only [d1]
           try simp only [d2]
           try simp only [d3]
           try with_reducible rfl
         simp only [Act.put, List.setIfInBounds_toArray, List.set_cons_zero, List.set_cons_succ])
      | (refine mv_free _ (Or.inr ⟨by rfl, rfl⟩) (trivial) ?_
         simp only [Act.put, List.setIfInBounds_toArray, List.set_cons_zero, List.set_cons_succ])
  refine mv_done ?_
  go_wp2_with fail
  refine (GC.out _ S3.out.hg).mono ?_
  rintro e w3 ⟨rfl, k4, o4⟩
  have S4 := Lib.hid (S3.out.gate k4 o4)
  have B4 := Lib.hid (B3.out.trans (Bes.one (l := l) (y := y) o4 (.inr (.inl rfl))))
  clear c0 c1 c2 c3 c4 c5 c6 z0 z1 z2 z3 z4 z5 z6 k4 o4 S3 B3
  go_wp2
  go_ret2
  exact ⟨rfl, S4.out, B4.out⟩
end Go.Proofs.Ytbbmkmkalghaeaa
