/- Package aoa: the meter; walked. -/
import Derived.Test.YtnfbfggkbpobiaaAoa1
import Derived.Test.YtnfbfggkbpobiaaLag2
import Derived.Test.YtnfbfggkbpobiaaHb
import Derived.Test.YtnfbfggkbpobiaaCurve9
namespace Go.Proofs.Ytnfbfggkbpobiaa
open Go.ChangeShapes Go.WideShapes Go.ChangeAt Go.RowKit
set_option linter.unusedVariables false
set_option linter.unusedSimpArgs false

theorem RowIs.besides {w w' : World} {f g : Nat} {l : List Int} (h : RowIs .i64 w (some ⟨g, 0, none⟩) l) (k : Beside f w w') (hne : g ≠ f) : RowIs .i64 w' (some ⟨g, 0, none⟩) l := by
  rcases h with rfl | ⟨b, off, e, hlt, hc⟩
  · exact .inl rfl
  · injection e with e
    injection e with e1 e2
    subst e1 e2
    exact .inr ⟨_, _, rfl, Nat.lt_of_lt_of_le hlt k.size, fun i hi => (World.cell?_of_block (a := ⟨g, 0 + i, none⟩) (k.block g hlt hne)).trans (hc i hi)⟩
def meC (f g1 c1 g2 c2 : Nat) (X Y : List Int) (tau arm sh : Int) : List Value := [.slice (some ⟨g1, 0, none⟩) X.length c1, .slice (some ⟨g2, 0, none⟩) Y.length c2, .int .i64 tau, .int .i64 arm, .int .i64 sh, .pointer (some ⟨f, 0, none⟩)]
/-- A meter: its vanes, their rows, its filter. -/
structure Met (b f g1 c1 g2 c2 : Nat) (X Y : List Int) (tau arm sh y : Int) (kn : Bool) (w : World) : Prop where
  m : Held b (meC f g1 c1 g2 c2 X Y tau arm sh) w
  l : Held f (lgC sh y kn) w
  rx : RowIs .i64 w (some ⟨g1, 0, none⟩) X
  ry : RowIs .i64 w (some ⟨g2, 0, none⟩) Y
  nb : b ≠ f
  n1 : g1 ≠ f
  n2 : g2 ≠ f
theorem Met.bel {b f g1 c1 g2 c2 : Nat} {X Y : List Int} {tau arm sh y : Int} {kn : Bool} {w w' : World} (h : Met b f g1 c1 g2 c2 X Y tau arm sh y kn w) (k : Below w.heap.size w w') : Met b f g1 c1 g2 c2 X Y tau arm sh y kn w' :=
  ⟨h.m.bel k, h.l.bel k, h.rx.below k, h.ry.below k, h.nb, h.n1, h.n2⟩
theorem Met.beside {b f g1 c1 g2 c2 : Nat} {X Y : List Int} {tau arm sh y z : Int} {kn kz : Bool} {w w' : World} (h : Met b f g1 c1 g2 c2 X Y tau arm sh y kn w) (k : Beside f w w') (hl : Held f (lgC sh z kz) w') : Met b f g1 c1 g2 c2 X Y tau arm sh z kz w' :=
  ⟨h.m.beside k h.nb, hl, h.rx.besides k h.n1, h.ry.besides k h.n2, h.nb, h.n1, h.n2⟩
theorem Met.cells {b f g1 c1 g2 c2 : Nat} {X Y : List Int} {tau arm sh y : Int} {kn : Bool} {w : World} (h : Met b f g1 c1 g2 c2 X Y tau arm sh y kn w) : w.cell? ⟨b, 0, none⟩ = some (.slice (some ⟨g1, 0, none⟩) X.length c1) ∧ w.cell? ⟨b, 1, none⟩ = some (.slice (some ⟨g2, 0, none⟩) Y.length c2) ∧ w.cell? ⟨b, 2, none⟩ = some (.int .i64 tau) ∧ w.cell? ⟨b, 3, none⟩ = some (.int .i64 arm) ∧ w.cell? ⟨b, 4, none⟩ = some (.int .i64 sh) ∧ w.cell? ⟨b, 5, none⟩ = some (.pointer (some ⟨f, 0, none⟩)) :=
  ⟨h.m.c 0 _ rfl, h.m.c 1 _ rfl, h.m.c 2 _ rfl, h.m.c 3 _ rfl, h.m.c 4 _ rfl, h.m.c 5 _ rfl⟩

set_option maxHeartbeats 1000000 in
theorem aalpha_nil (w : World) : Calls Try.prog 45 #[.pointer none] w fun e w' => e = .returned (.tuple #[.int .i64 0, .bool false]) ∧ w = w' := by
  go_enter Try.func45, Try.ntmps45
  go_wp2
  go_ret2
  exact ⟨rfl, rfl⟩
set_option maxHeartbeats 2000000 in
theorem astep_nil (x e y f r s : Int) (w : World) : Calls Try.prog 44 #[.pointer none, .agg #[.int .i64 x, .int .i64 e], .agg #[.int .i64 y, .int .i64 f], .int .i64 r, .int .i64 s] w fun e w' => e = .returned (.tuple #[.int .i64 0, .int .i64 3]) ∧ Below w.heap.size w w' := by
  go_enter Try.func44, Try.ntmps44
  go_wp2
  go_ret2
  exact ⟨rfl, (by repeat (first | exact Below.refl _ _ | assumption | apply Below.drew | apply below_drewN | (refine Below.alloc ?_ (by first | exact Nat.le_refl _ | omega | (simp <;> omega)) _) | (refine Below.setCell ?_ (by first | exact Nat.le_refl _ | omega | (simp <;> omega)) _)))⟩
set_option maxHeartbeats 2000000 in
theorem aalpha_any (b f g1 c1 g2 c2 : Nat) (X Y : List Int) (tau arm sh y : Int) (kn : Bool) (w : World) (h : Met b f g1 c1 g2 c2 X Y tau arm sh y kn w) : Calls Try.prog 45 #[.pointer (some ⟨b, 0, none⟩)] w fun e w' => e = .returned (.tuple #[.int .i64 y, .bool kn]) ∧ Below w.heap.size w w' := by
  obtain ⟨-, -, -, -, -, k5⟩ := h.cells
  have VA := Lib.hid (fun u => lgval_any f (sh := sh) (y := y) (kn := kn) u)
  have hl := Lib.hid (fun u (k : Below w.heap.size w u) => h.l.bel k)
  clear h
  go_enter Try.func45, Try.ntmps45
  go_wp2_with fail
  first
  | (refine (VA.out _ (hl.out _ (Below.refl _ _))).mono ?_
     rintro e w1 ⟨rfl, rfl⟩)
  | (refine (VA.out _ (hl.out _ (Below.refl _ _).drew)).mono ?_
     rintro e w1 ⟨rfl, rfl⟩)
  go_wp2
  go_ret2
  exact ⟨rfl, by first | exact (Below.refl _ _).drew | exact (Below.refl _ _).drew.drew⟩
theorem ang_box (w : World) (v er : Int) : ∃ V, V = ((w.alloc (.cells #[.int .i64 v, .int .i64 er] 73)).alloc (.cells #[.int .i64 0, .int .i64 0] 73)) ∧ Below w.heap.size w V ∧ V.heap.size = w.heap.size + 2 ∧ ∀ u, Below (w.heap.size + 2) V u → u.cell? ⟨w.heap.size, 0, none⟩ = some (.int .i64 v) ∧ u.cell? ⟨w.heap.size, 1, none⟩ = some (.int .i64 er) ∧ u.cell? ⟨w.heap.size + 1, 0, none⟩ = some (.int .i64 0) ∧ u.cell? ⟨w.heap.size + 1, 1, none⟩ = some (.int .i64 0) ∧ u.frozen? ⟨w.heap.size, 0, none⟩ = false ∧ u.frozen? ⟨w.heap.size, 1, none⟩ = false ∧ u.frozen? ⟨w.heap.size + 1, 0, none⟩ = false ∧ u.frozen? ⟨w.heap.size + 1, 1, none⟩ = false :=
  ⟨_, rfl, (by repeat (first | exact Below.refl _ _ | assumption | apply Below.drew | apply below_drewN | (refine Below.alloc ?_ (by first | exact Nat.le_refl _ | omega | (simp <;> omega)) _) | (refine Below.setCell ?_ (by first | exact Nat.le_refl _ | omega | (simp <;> omega)) _))), by simp, fun u hu => ⟨(bc hu (by omega)).trans (by go_simp), (bc hu (by omega)).trans (by go_simp), (bc hu (by omega)).trans (by go_simp), (bc hu (by omega)).trans (by go_simp), (hu.frozen (p := ⟨w.heap.size, 0, none⟩) (by show w.heap.size + 0 < w.heap.size + 2; omega)).trans (by first | (simp; done) | go_simp), (hu.frozen (p := ⟨w.heap.size, 1, none⟩) (by show w.heap.size + 0 < w.heap.size + 2; omega)).trans (by first | (simp; done) | go_simp), (hu.frozen (p := ⟨w.heap.size + 1, 0, none⟩) (by show w.heap.size + 1 < w.heap.size + 2; omega)).trans (by first | (simp; done) | go_simp), (hu.frozen (p := ⟨w.heap.size + 1, 1, none⟩) (by show w.heap.size + 1 < w.heap.size + 2; omega)).trans (by first | (simp; done) | go_simp)⟩⟩
set_option maxRecDepth 100000 in
set_option maxHeartbeats 8000000 in
theorem aangle_any (p0 p1 p2 : Nat) (b f g1 c1 g2 c2 : Nat) (X Y : List Int) (tau arm sh y : Int) (kn : Bool) (v er rate speed : Int) (w : World) (h : Met b f g1 c1 g2 c2 X Y tau arm sh y kn w) (hX : X.length ≤ 300) (hY : Y.length ≤ 300) (hs : speed ≤ 9223372036854775807) (hg : agB X Y tau arm sh = true)
    (q0 : w.cell? ⟨p0, 0, none⟩ = some (.pointer (some ⟨b, 0, none⟩))) (q1 : w.cell? ⟨p1, 0, none⟩ = some (.int .i64 rate)) (q2 : w.cell? ⟨p2, 0, none⟩ = some (.int .i64 speed)) (hp0 : p0 < w.heap.size) (hp1 : p1 < w.heap.size) (hp2 : p2 < w.heap.size) :
    Calls Try.prog 73 #[.agg #[.int .i64 v, .int .i64 er], .pointer (some ⟨p0, 0, none⟩), .pointer (some ⟨p1, 0, none⟩), .pointer (some ⟨p2, 0, none⟩)] w fun e w' => e = .returned (.agg #[.int .i64 (trV X Y arm v rate speed), .int .i64 er]) ∧ Below w.heap.size w w' := by
  obtain ⟨V, eV, hb0, hz, hcs⟩ := ang_box w v er
  have TR := fun u (k : Below w.heap.size w u) => atrue_any (some ⟨g1, 0, none⟩) (some ⟨g2, 0, none⟩) c1 c2 X Y tau arm sh v rate speed u (h.rx.below k) (h.ry.below k) hX hY hs
  rw [hg] at TR
  simp only [if_true] at TR
  have hb0' := hb0
  replace TR := Lib.hid (fun u (k : Below (w.heap.size + 2) V u) => TR u (hb0'.trans (k.mono (by omega))))
  have HM := Lib.hid (fun u (k : Below (w.heap.size + 2) V u) => show u.cell? ⟨b, 0, none⟩ = some (.slice (some ⟨g1, 0, none⟩) X.length c1) ∧ u.cell? ⟨b, 1, none⟩ = some (.slice (some ⟨g2, 0, none⟩) Y.length c2) ∧ u.cell? ⟨b, 2, none⟩ = some (.int .i64 tau) ∧ u.cell? ⟨b, 3, none⟩ = some (.int .i64 arm) ∧ u.cell? ⟨b, 4, none⟩ = some (.int .i64 sh) ∧ u.cell? ⟨p0, 0, none⟩ = some (.pointer (some ⟨b, 0, none⟩)) ∧ u.cell? ⟨p1, 0, none⟩ = some (.int .i64 rate) ∧ u.cell? ⟨p2, 0, none⟩ = some (.int .i64 speed) from by
    have k' := hb0'.trans (k.mono (show w.heap.size ≤ w.heap.size + 2 by omega))
    obtain ⟨m0, m1, m2, m3, m4, -⟩ := (h.bel k').cells
    exact ⟨m0, m1, m2, m3, m4, (k'.cell (p := ⟨p0, 0, none⟩) hp0).trans q0, (k'.cell (p := ⟨p1, 0, none⟩) hp1).trans q1, (k'.cell (p := ⟨p2, 0, none⟩) hp2).trans q2⟩)
  generalize trV X Y arm v rate speed = F at *
  clear h hX hY hs hg q0 q1 q2 hp0 hp1 hp2 hb0'
  replace hb0 := Lib.hid hb0
  replace hz := Lib.hid hz
  replace hcs := Lib.hid hcs
  replace eV := Lib.hid eV
  go_enter Try.func73, Try.ntmps73
  go_upto_region 1 with (fail)
  rw [← eV.out]
  obtain ⟨k0, k1, k2, k3, k4, k5, k6, k7⟩ := hcs.out _ (Below.refl _ _)
  obtain ⟨m0, m1, m2, m3, m4, n0, n1, n2⟩ := HM.out _ (Below.refl _ _)
  refine region_moves (fun u => u.cell? ⟨b, 0, none⟩ = some (.slice (some ⟨g1, 0, none⟩) X.length c1) ∧ u.cell? ⟨b, 1, none⟩ = some (.slice (some ⟨g2, 0, none⟩) Y.length c2) ∧ u.cell? ⟨b, 2, none⟩ = some (.int .i64 tau) ∧ u.cell? ⟨b, 3, none⟩ = some (.int .i64 arm) ∧ u.cell? ⟨b, 4, none⟩ = some (.int .i64 sh) ∧ u.cell? ⟨p0, 0, none⟩ = some (.pointer (some ⟨b, 0, none⟩)) ∧ u.cell? ⟨p1, 0, none⟩ = some (.int .i64 rate) ∧ u.cell? ⟨p2, 0, none⟩ = some (.int .i64 speed) ∧ u.cell? ⟨w.heap.size, 0, none⟩ = some (.int .i64 v)) [(13, [(12, 13), (10, 13), (8, 13), (0, 13), (1, 13), (2, 13), (3, 13), (4, 13), (5, 13), (6, 13), (7, 13), (9, 13)])] [(.take, 0), (.free, 1), (.free, 2), (.take, 3), (.free, 4), (.take, 5), (.take, 6), (.take, 7), (.step, 8), (.free, 9), (.free, 10), (.free, 11), (.free, 12), (.late, 13)] _ (by kernel_rfl) (by kernel_rfl) (by kernel_rfl) (by kernel_rfl) (by decide) rfl (fun _ _ _ _ _ h => h) ?_
  simp only [List.filterMap_cons, List.filterMap_nil, List.getElem?_toArray, List.getElem?_cons_zero, List.getElem?_cons_succ, Option.map_some]
  iterate 1
    first
      | (refine mv_take ?_ (Or.inl ⟨by rfl, ?_⟩) (⟨m0, m1, m2, m3, m4, n0, n1, n2, k0⟩) ?_
         rotate_left 1
         · intro u hu
           (try dsimp only at hu)
           go_simp
           try with_reducible rfl
         simp only [Act.put, List.setIfInBounds_toArray, List.set_cons_zero, List.set_cons_succ])
      | (refine mv_take _ (Or.inr ⟨by rfl, rfl⟩) (⟨m0, m1, m2, m3, m4, n0, n1, n2, k0⟩) ?_
         simp only [Act.put, List.setIfInBounds_toArray, List.set_cons_zero, List.set_cons_succ])
  iterate 2
    first
      | (refine mv_free ?_ (Or.inl ⟨by rfl, ?_⟩) (⟨m0, m1, m2, m3, m4, n0, n1, n2, k0⟩) ?_
         rotate_left 1
         · intro u
           go_simp
           try simp only [d1]
           try simp only [d2]
           try simp only [d3]
           try with_reducible rfl
         simp only [Act.put, List.setIfInBounds_toArray, List.set_cons_zero, List.set_cons_succ])
      | (refine mv_free _ (Or.inr ⟨by rfl, rfl⟩) (⟨m0, m1, m2, m3, m4, n0, n1, n2, k0⟩) ?_
         simp only [Act.put, List.setIfInBounds_toArray, List.set_cons_zero, List.set_cons_succ])
  iterate 1
    first
      | (refine mv_take ?_ (Or.inl ⟨by rfl, ?_⟩) (⟨m0, m1, m2, m3, m4, n0, n1, n2, k0⟩) ?_
         rotate_left 1
         · intro u hu
           (try dsimp only at hu)
           go_simp
           try with_reducible rfl
         simp only [Act.put, List.setIfInBounds_toArray, List.set_cons_zero, List.set_cons_succ])
      | (refine mv_take _ (Or.inr ⟨by rfl, rfl⟩) (⟨m0, m1, m2, m3, m4, n0, n1, n2, k0⟩) ?_
         simp only [Act.put, List.setIfInBounds_toArray, List.set_cons_zero, List.set_cons_succ])
  iterate 1
    first
      | (refine mv_free ?_ (Or.inl ⟨by rfl, ?_⟩) (⟨m0, m1, m2, m3, m4, n0, n1, n2, k0⟩) ?_
         rotate_left 1
         · intro u
           go_simp
           try simp only [d1]
           try simp only [d2]
           try simp only [d3]
           try with_reducible rfl
         simp only [Act.put, List.setIfInBounds_toArray, List.set_cons_zero, List.set_cons_succ])
      | (refine mv_free _ (Or.inr ⟨by rfl, rfl⟩) (⟨m0, m1, m2, m3, m4, n0, n1, n2, k0⟩) ?_
         simp only [Act.put, List.setIfInBounds_toArray, List.set_cons_zero, List.set_cons_succ])
  iterate 3
    first
      | (refine mv_take ?_ (Or.inl ⟨by rfl, ?_⟩) (⟨m0, m1, m2, m3, m4, n0, n1, n2, k0⟩) ?_
         rotate_left 1
         · intro u hu
           (try dsimp only at hu)
           go_simp
           try with_reducible rfl
         simp only [Act.put, List.setIfInBounds_toArray, List.set_cons_zero, List.set_cons_succ])
      | (refine mv_take _ (Or.inr ⟨by rfl, rfl⟩) (⟨m0, m1, m2, m3, m4, n0, n1, n2, k0⟩) ?_
         simp only [Act.put, List.setIfInBounds_toArray, List.set_cons_zero, List.set_cons_succ])
  refine mv_step (fun K hK => ?_)
  go_simp
  refine (TR.out _ (Below.refl _ _).drew).mono ?_
  rintro e w1 ⟨rfl, hb1⟩
  have hb1 := (Below.refl (w.heap.size + 2) V).drew.trans (hb1.mono (by have := hz.out; show _ ≤ V.heap.size; omega))
  obtain ⟨m0, m1, m2, m3, m4, n0, n1, n2⟩ := HM.out _ hb1
  obtain ⟨k0, k1, k2, k3, k4, k5, k6, k7⟩ := hcs.out _ hb1
  go_wp2_with fail
  refine hK.out _ _ _ (fun u hu => hu) (⟨m0, m1, m2, m3, m4, n0, n1, n2, k0⟩) ?_
  clear hK K
  iterate 4
    first
      | (refine mv_free ?_ (Or.inl ⟨by rfl, ?_⟩) (⟨m0, m1, m2, m3, m4, n0, n1, n2, k0⟩) ?_
         rotate_left 1
         · intro u
           go_simp
           try simp only [d1]
           try simp only [d2]
           try simp only [d3]
           try with_reducible rfl
         simp only [Act.put, List.setIfInBounds_toArray, List.set_cons_zero, List.set_cons_succ])
      | (refine mv_free _ (Or.inr ⟨by rfl, rfl⟩) (⟨m0, m1, m2, m3, m4, n0, n1, n2, k0⟩) ?_
         simp only [Act.put, List.setIfInBounds_toArray, List.set_cons_zero, List.set_cons_succ])
  refine mv_late (fun K hK => ?_)
  go_simp
  refine hK.out (fun _ => True) _ _ ?_
  clear hK K
  refine mv_done ?_
  obtain ⟨W5, eW5⟩ : ∃ W5, W5 = w1.setCell ⟨w.heap.size, 0, none⟩ (.int .i64 F) := ⟨_, rfl⟩
  have z0 : W5.cell? ⟨w.heap.size, 0, none⟩ = some (.int .i64 F) := by rw [eW5]; exact World.cell?_setCell_same w1 ⟨w.heap.size, 0, none⟩ (.int .i64 F) k0
  have z1 : W5.cell? ⟨w.heap.size, 1, none⟩ = some (.int .i64 er) := by rw [eW5]; exact (World.cell?_setCell_other w1 ⟨w.heap.size, 0, none⟩ ⟨w.heap.size, 1, none⟩ (.int .i64 F) (by simp)).trans k1
  have z2 : W5.cell? ⟨w.heap.size + 1, 0, none⟩ = some (.int .i64 0) := by rw [eW5]; exact (World.cell?_setCell_other w1 ⟨w.heap.size, 0, none⟩ ⟨w.heap.size + 1, 0, none⟩ (.int .i64 F) (by simp)).trans k2
  have z3 : W5.cell? ⟨w.heap.size + 1, 1, none⟩ = some (.int .i64 0) := by rw [eW5]; exact (World.cell?_setCell_other w1 ⟨w.heap.size, 0, none⟩ ⟨w.heap.size + 1, 1, none⟩ (.int .i64 F) (by simp)).trans k3
  have z4 : W5.frozen? ⟨w.heap.size + 1, 0, none⟩ = false := by rw [eW5]; simpa using k6
  have z5 : W5.frozen? ⟨w.heap.size + 1, 1, none⟩ = false := by rw [eW5]; simpa using k7
  have hb5 := Lib.hid (show Below w.heap.size w W5 from by rw [eW5]; exact (hb0.out.trans (hb1.mono (by omega))).setCell (p := ⟨w.heap.size, 0, none⟩) (Nat.le_refl _) _)
  have y0 := Lib.hid ((World.cell?_setCell_other (W5.setCell ⟨w.heap.size + 1, 0, none⟩ (.int .i64 F)) ⟨w.heap.size + 1, 1, none⟩ ⟨w.heap.size + 1, 0, none⟩ (.int .i64 er) (by simp)).trans (World.cell?_setCell_same W5 ⟨w.heap.size + 1, 0, none⟩ (.int .i64 F) z2))
  have y1 := Lib.hid (World.cell?_setCell_same (W5.setCell ⟨w.heap.size + 1, 0, none⟩ (.int .i64 F)) ⟨w.heap.size + 1, 1, none⟩ (.int .i64 er) ((World.cell?_setCell_other W5 ⟨w.heap.size + 1, 0, none⟩ ⟨w.heap.size + 1, 1, none⟩ (.int .i64 F) (by simp)).trans z3))
  rw [← eW5]
  replace eW5 := Lib.hid eW5
  clear k0 k1 k2 k3 k4 k5 k6 k7 m0 m1 m2 m3 m4 n0 n1 n2
  go_wp2
  refine bodyPost_ret (v := .agg #[.int .i64 F, .int .i64 er]) (by simp [results, Try.results73, go_sem, y0.out, y1.out]) rfl ?_
  exact ⟨rfl, (hb5.out.setCell (p := ⟨w.heap.size + 1, 0, none⟩) (by show _ ≤ w.heap.size + 1; omega) _).setCell (p := ⟨w.heap.size + 1, 1, none⟩) (by show _ ≤ w.heap.size + 1; omega) _⟩

def cloB (p q y : Int) (kn : Bool) : Bool := kn && decide (apt q y < apt p y)
set_option maxRecDepth 100000 in
set_option maxHeartbeats 8000000 in
theorem acloser_any (b f g1 c1 g2 c2 : Nat) (X Y : List Int) (tau arm sh y : Int) (kn : Bool) (p q : Int) (w : World) (h : Met b f g1 c1 g2 c2 X Y tau arm sh y kn w) : Calls Try.prog 93 #[.pointer (some ⟨b, 0, none⟩), .int .i64 p, .int .i64 q] w fun e w' => e = .returned (.tuple #[.int .i64 (if cloB p q y kn then q else p), .int .i64 (if cloB p q y kn then 2 else 1)]) ∧ Below w.heap.size w w' := by
  have AL := Lib.hid (aalpha_any b f g1 c1 g2 c2 X Y tau arm sh y kn w h)
  clear h
  have AQ := Lib.hid (fun u => apart_any q y u)
  have AP := Lib.hid (fun u => apart_any p y u)
  unfold cloB
  generalize apt q y = r at *
  generalize apt p y = s at *
  cases kn
  · simp only [Bool.false_and, Bool.false_eq_true, if_false]
    go_enter Try.func93, Try.ntmps93
    go_wp2_with fail
    refine AL.out.mono ?_
    rintro e w1 ⟨rfl, hb1⟩
    go_wp2
    go_ret2
    exact ⟨rfl, hb1⟩
  · rw [Bool.true_and]
    rcases (show r < s ∨ s ≤ r by omega) with h | h
    · rw [decide_eq_true h, if_pos rfl, if_pos rfl]
      go_enter Try.func93, Try.ntmps93
      go_wp2_with fail
      refine AL.out.mono ?_
      rintro e w1 ⟨rfl, hb1⟩
      go_wp2_with fail
      refine (AQ.out _).mono ?_
      rintro e w2 ⟨rfl, rfl⟩
      go_wp2_with fail
      refine (AP.out _).mono ?_
      rintro e w2 ⟨rfl, rfl⟩
      go_wp2
      go_ret2
      exact ⟨rfl, hb1⟩
    · rw [decide_eq_false (show ¬ r < s by omega)]
      simp only [Bool.false_eq_true, if_false]
      go_enter Try.func93, Try.ntmps93
      go_wp2_with fail
      refine AL.out.mono ?_
      rintro e w1 ⟨rfl, hb1⟩
      go_wp2_with fail
      refine (AQ.out _).mono ?_
      rintro e w2 ⟨rfl, rfl⟩
      go_wp2_with fail
      refine (AP.out _).mono ?_
      rintro e w2 ⟨rfl, rfl⟩
      go_wp2
      go_ret2
      exact ⟨rfl, hb1⟩
theorem cho_box (w : World) (p e1 q e2 : Int) : ∃ V, V = ((w.alloc (.cells #[.int .i64 p, .int .i64 e1] 73)).alloc (.cells #[.int .i64 q, .int .i64 e2] 73)) ∧ Below w.heap.size w V ∧ V.heap.size = w.heap.size + 2 ∧ ∀ u, Below (w.heap.size + 2) V u → u.cell? ⟨w.heap.size, 0, none⟩ = some (.int .i64 p) ∧ u.cell? ⟨w.heap.size, 1, none⟩ = some (.int .i64 e1) ∧ u.cell? ⟨w.heap.size + 1, 0, none⟩ = some (.int .i64 q) ∧ u.cell? ⟨w.heap.size + 1, 1, none⟩ = some (.int .i64 e2) :=
  ⟨_, rfl, (by repeat (first | exact Below.refl _ _ | assumption | apply Below.drew | apply below_drewN | (refine Below.alloc ?_ (by first | exact Nat.le_refl _ | omega | (simp <;> omega)) _) | (refine Below.setCell ?_ (by first | exact Nat.le_refl _ | omega | (simp <;> omega)) _))), by simp, fun u hu => ⟨(bc hu (by omega)).trans (by go_simp), (bc hu (by omega)).trans (by go_simp), (bc hu (by omega)).trans (by go_simp), (bc hu (by omega)).trans (by go_simp)⟩⟩

def chV (p e1 q e2 tau y : Int) (kn : Bool) : Int := if vrd p e1 q e2 tau = 0 then men p q else if vrd p e1 q e2 tau = 1 then (if cloB p q y kn then q else p) else if vrd p e1 q e2 tau = 3 then p else if vrd p e1 q e2 tau = 2 then q else 0
def chO (p e1 q e2 tau y : Int) (kn : Bool) : Int := if vrd p e1 q e2 tau = 0 then 0 else if vrd p e1 q e2 tau = 1 then (if cloB p q y kn then 2 else 1) else if vrd p e1 q e2 tau = 3 then 1 else if vrd p e1 q e2 tau = 2 then 2 else 3
theorem vrd_of (p e1 q e2 tau : Int) : vrd p e1 q e2 tau = 0 ∨ vrd p e1 q e2 tau = 1 ∨ vrd p e1 q e2 tau = 3 ∨ vrd p e1 q e2 tau = 2 ∨ vrd p e1 q e2 tau = 4 := by unfold vrd; omega
set_option maxRecDepth 100000 in
set_option maxHeartbeats 8000000 in
theorem achoose_any (b f g1 c1 g2 c2 : Nat) (X Y : List Int) (tau arm sh y : Int) (kn : Bool) (p e1 q e2 : Int) (w : World) (h : Met b f g1 c1 g2 c2 X Y tau arm sh y kn w) : Calls Try.prog 74 #[.pointer (some ⟨b, 0, none⟩), .agg #[.int .i64 p, .int .i64 e1], .agg #[.int .i64 q, .int .i64 e2]] w fun e w' => e = .returned (.tuple #[.int .i64 (chV p e1 q e2 tau y kn), .int .i64 (chO p e1 q e2 tau y kn)]) ∧ Below w.heap.size w w' := by
  obtain ⟨V, eV, hb0, hz, hcs⟩ := cho_box w p e1 q e2
  have VE := fun u => verdict_any p e1 q e2 tau u
  have ME := Lib.hid (fun u => mean_any p q u)
  have CL := Lib.hid (fun u (k : Below (w.heap.size + 2) V u) => acloser_any b f g1 c1 g2 c2 X Y tau arm sh y kn p q u (h.bel (hb0.trans (k.mono (by omega)))))
  have m2 := (h.bel hb0).cells.2.2.1
  have hlt := Lib.hid (h.bel hb0).m.lt
  have hV := vrd_of p e1 q e2 tau
  unfold chV chO
  generalize vrd p e1 q e2 tau = v at *
  generalize men p q = m at *
  generalize cloB p q y kn = c at *
  clear h
  replace hb0 := Lib.hid hb0
  replace hz := Lib.hid hz
  replace hcs := Lib.hid hcs
  replace eV := Lib.hid eV
  rcases hV with rfl | rfl | rfl | rfl | rfl
  · replace VE := Lib.hid VE
    simp only [show ((0 : Int) = 0) = True by simp, show ((0 : Int) = 1) = False by simp, show ((0 : Int) = 3) = False by simp, show ((0 : Int) = 2) = False by simp, if_true, if_false]
    go_enter Try.func74, Try.ntmps74
    go_upto_region 1 with (fail)
    rw [← eV.out]
    obtain ⟨k0, k1, k2, k3⟩ := hcs.out _ (Below.refl _ _)
    refine region_moves (fun u => u.cell? ⟨w.heap.size, 0, none⟩ = some (.int .i64 p) ∧ u.cell? ⟨w.heap.size, 1, none⟩ = some (.int .i64 e1) ∧ u.cell? ⟨w.heap.size + 1, 0, none⟩ = some (.int .i64 q) ∧ u.cell? ⟨w.heap.size + 1, 1, none⟩ = some (.int .i64 e2) ∧ u.cell? ⟨b, 2, none⟩ = some (.int .i64 tau)) [] [(.take, 0), (.take, 1), (.free, 2), (.free, 3), (.free, 4), (.free, 5), (.take, 6), (.step, 7)] _ (by kernel_rfl) (by kernel_rfl) (by kernel_rfl) (by kernel_rfl) (by decide) rfl (fun _ _ _ _ _ h => h) ?_
    simp only [List.filterMap_cons, List.filterMap_nil, List.getElem?_toArray, List.getElem?_cons_zero, List.getElem?_cons_succ, Option.map_some]
    iterate 2
      first
        | (refine mv_take ?_ (Or.inl ⟨by rfl, ?_⟩) (⟨k0, k1, k2, k3, m2⟩) ?_
           rotate_left 1
           · intro u hu
             (try dsimp only at hu)
             go_simp
             try with_reducible rfl
           simp only [Act.put, List.setIfInBounds_toArray, List.set_cons_zero, List.set_cons_succ])
        | (refine mv_take _ (Or.inr ⟨by rfl, rfl⟩) (⟨k0, k1, k2, k3, m2⟩) ?_
           simp only [Act.put, List.setIfInBounds_toArray, List.set_cons_zero, List.set_cons_succ])
    iterate 4
      first
        | (refine mv_free ?_ (Or.inl ⟨by rfl, ?_⟩) (⟨k0, k1, k2, k3, m2⟩) ?_
           rotate_left 1
           · intro u
             go_simp
             try simp only [d1]
             try simp only [d2]
             try simp only [d3]
             try with_reducible rfl
           simp only [Act.put, List.setIfInBounds_toArray, List.set_cons_zero, List.set_cons_succ])
        | (refine mv_free _ (Or.inr ⟨by rfl, rfl⟩) (⟨k0, k1, k2, k3, m2⟩) ?_
           simp only [Act.put, List.setIfInBounds_toArray, List.set_cons_zero, List.set_cons_succ])
    iterate 1
      first
        | (refine mv_take ?_ (Or.inl ⟨by rfl, ?_⟩) (⟨k0, k1, k2, k3, m2⟩) ?_
           rotate_left 1
           · intro u hu
             (try dsimp only at hu)
             go_simp
             try with_reducible rfl
           simp only [Act.put, List.setIfInBounds_toArray, List.set_cons_zero, List.set_cons_succ])
        | (refine mv_take _ (Or.inr ⟨by rfl, rfl⟩) (⟨k0, k1, k2, k3, m2⟩) ?_
           simp only [Act.put, List.setIfInBounds_toArray, List.set_cons_zero, List.set_cons_succ])
    refine mv_step (fun K hK => ?_)
    go_simp
    refine (VE.out _).mono ?_
    rintro e w1 ⟨rfl, hb1⟩
    replace m2 := (hb1.cell (p := ⟨b, 2, none⟩) (show b < V.drew.heap.size from hlt.out)).trans m2
    have hb1 := (Below.refl (w.heap.size + 2) V).drew.trans (hb1.mono (by have := hz.out; show _ ≤ V.heap.size; omega))
    obtain ⟨k0, k1, k2, k3⟩ := hcs.out _ hb1
    go_wp2_with fail
    refine hK.out _ _ _ (fun u hu => hu) (⟨k0, k1, k2, k3, m2⟩) ?_
    clear hK K
    refine mv_done ?_
    go_wp2_with fail
    refine (ME.out _).mono ?_
    rintro e w2 ⟨rfl, rfl⟩
    go_wp2
    go_ret2
    exact ⟨rfl, hb0.out.trans (hb1.mono (by omega))⟩
  · replace VE := Lib.hid VE
    simp only [show ((1 : Int) = 0) = False by simp, show ((1 : Int) = 1) = True by simp, show ((1 : Int) = 3) = False by simp, show ((1 : Int) = 2) = False by simp, if_true, if_false]
    generalize (if c = true then q else p) = cv at *
    generalize (if c = true then (2 : Int) else 1) = co at *
    go_enter Try.func74, Try.ntmps74
    go_upto_region 1 with (fail)
    rw [← eV.out]
    obtain ⟨k0, k1, k2, k3⟩ := hcs.out _ (Below.refl _ _)
    refine region_moves (fun u => u.cell? ⟨w.heap.size, 0, none⟩ = some (.int .i64 p) ∧ u.cell? ⟨w.heap.size, 1, none⟩ = some (.int .i64 e1) ∧ u.cell? ⟨w.heap.size + 1, 0, none⟩ = some (.int .i64 q) ∧ u.cell? ⟨w.heap.size + 1, 1, none⟩ = some (.int .i64 e2) ∧ u.cell? ⟨b, 2, none⟩ = some (.int .i64 tau)) [] [(.take, 0), (.take, 1), (.free, 2), (.free, 3), (.free, 4), (.free, 5), (.take, 6), (.step, 7)] _ (by kernel_rfl) (by kernel_rfl) (by kernel_rfl) (by kernel_rfl) (by decide) rfl (fun _ _ _ _ _ h => h) ?_
    simp only [List.filterMap_cons, List.filterMap_nil, List.getElem?_toArray, List.getElem?_cons_zero, List.getElem?_cons_succ, Option.map_some]
    iterate 2
      first
        | (refine mv_take ?_ (Or.inl ⟨by rfl, ?_⟩) (⟨k0, k1, k2, k3, m2⟩) ?_
           rotate_left 1
           · intro u hu
             (try dsimp only at hu)
             go_simp
             try with_reducible rfl
           simp only [Act.put, List.setIfInBounds_toArray, List.set_cons_zero, List.set_cons_succ])
        | (refine mv_take _ (Or.inr ⟨by rfl, rfl⟩) (⟨k0, k1, k2, k3, m2⟩) ?_
           simp only [Act.put, List.setIfInBounds_toArray, List.set_cons_zero, List.set_cons_succ])
    iterate 4
      first
        | (refine mv_free ?_ (Or.inl ⟨by rfl, ?_⟩) (⟨k0, k1, k2, k3, m2⟩) ?_
           rotate_left 1
           · intro u
             go_simp
             try simp only [d1]
             try simp only [d2]
             try simp only [d3]
             try with_reducible rfl
           simp only [Act.put, List.setIfInBounds_toArray, List.set_cons_zero, List.set_cons_succ])
        | (refine mv_free _ (Or.inr ⟨by rfl, rfl⟩) (⟨k0, k1, k2, k3, m2⟩) ?_
           simp only [Act.put, List.setIfInBounds_toArray, List.set_cons_zero, List.set_cons_succ])
    iterate 1
      first
        | (refine mv_take ?_ (Or.inl ⟨by rfl, ?_⟩) (⟨k0, k1, k2, k3, m2⟩) ?_
           rotate_left 1
           · intro u hu
             (try dsimp only at hu)
             go_simp
             try with_reducible rfl
           simp only [Act.put, List.setIfInBounds_toArray, List.set_cons_zero, List.set_cons_succ])
        | (refine mv_take _ (Or.inr ⟨by rfl, rfl⟩) (⟨k0, k1, k2, k3, m2⟩) ?_
           simp only [Act.put, List.setIfInBounds_toArray, List.set_cons_zero, List.set_cons_succ])
    refine mv_step (fun K hK => ?_)
    go_simp
    refine (VE.out _).mono ?_
    rintro e w1 ⟨rfl, hb1⟩
    replace m2 := (hb1.cell (p := ⟨b, 2, none⟩) (show b < V.drew.heap.size from hlt.out)).trans m2
    have hb1 := (Below.refl (w.heap.size + 2) V).drew.trans (hb1.mono (by have := hz.out; show _ ≤ V.heap.size; omega))
    obtain ⟨k0, k1, k2, k3⟩ := hcs.out _ hb1
    go_wp2_with fail
    refine hK.out _ _ _ (fun u hu => hu) (⟨k0, k1, k2, k3, m2⟩) ?_
    clear hK K
    refine mv_done ?_
    go_wp2_with fail
    refine (CL.out _ hb1).mono ?_
    rintro e w2 ⟨rfl, hb2⟩
    have hb2 := hb1.trans (hb2.mono (by have := hb1.size; have := hz.out; omega))
    clear hb1
    go_wp2
    go_ret2
    exact ⟨rfl, hb0.out.trans (hb2.mono (by omega))⟩
  · replace VE := Lib.hid VE
    simp only [show ((3 : Int) = 0) = False by simp, show ((3 : Int) = 1) = False by simp, show ((3 : Int) = 3) = True by simp, show ((3 : Int) = 2) = False by simp, if_true, if_false]
    go_enter Try.func74, Try.ntmps74
    go_upto_region 1 with (fail)
    rw [← eV.out]
    obtain ⟨k0, k1, k2, k3⟩ := hcs.out _ (Below.refl _ _)
    refine region_moves (fun u => u.cell? ⟨w.heap.size, 0, none⟩ = some (.int .i64 p) ∧ u.cell? ⟨w.heap.size, 1, none⟩ = some (.int .i64 e1) ∧ u.cell? ⟨w.heap.size + 1, 0, none⟩ = some (.int .i64 q) ∧ u.cell? ⟨w.heap.size + 1, 1, none⟩ = some (.int .i64 e2) ∧ u.cell? ⟨b, 2, none⟩ = some (.int .i64 tau)) [] [(.take, 0), (.take, 1), (.free, 2), (.free, 3), (.free, 4), (.free, 5), (.take, 6), (.step, 7)] _ (by kernel_rfl) (by kernel_rfl) (by kernel_rfl) (by kernel_rfl) (by decide) rfl (fun _ _ _ _ _ h => h) ?_
    simp only [List.filterMap_cons, List.filterMap_nil, List.getElem?_toArray, List.getElem?_cons_zero, List.getElem?_cons_succ, Option.map_some]
    iterate 2
      first
        | (refine mv_take ?_ (Or.inl ⟨by rfl, ?_⟩) (⟨k0, k1, k2, k3, m2⟩) ?_
           rotate_left 1
           · intro u hu
             (try dsimp only at hu)
             go_simp
             try with_reducible rfl
           simp only [Act.put, List.setIfInBounds_toArray, List.set_cons_zero, List.set_cons_succ])
        | (refine mv_take _ (Or.inr ⟨by rfl, rfl⟩) (⟨k0, k1, k2, k3, m2⟩) ?_
           simp only [Act.put, List.setIfInBounds_toArray, List.set_cons_zero, List.set_cons_succ])
    iterate 4
      first
        | (refine mv_free ?_ (Or.inl ⟨by rfl, ?_⟩) (⟨k0, k1, k2, k3, m2⟩) ?_
           rotate_left 1
           · intro u
             go_simp
             try simp only [d1]
             try simp only [d2]
             try simp only [d3]
             try with_reducible rfl
           simp only [Act.put, List.setIfInBounds_toArray, List.set_cons_zero, List.set_cons_succ])
        | (refine mv_free _ (Or.inr ⟨by rfl, rfl⟩) (⟨k0, k1, k2, k3, m2⟩) ?_
           simp only [Act.put, List.setIfInBounds_toArray, List.set_cons_zero, List.set_cons_succ])
    iterate 1
      first
        | (refine mv_take ?_ (Or.inl ⟨by rfl, ?_⟩) (⟨k0, k1, k2, k3, m2⟩) ?_
           rotate_left 1
           · intro u hu
             (try dsimp only at hu)
             go_simp
             try with_reducible rfl
           simp only [Act.put, List.setIfInBounds_toArray, List.set_cons_zero, List.set_cons_succ])
        | (refine mv_take _ (Or.inr ⟨by rfl, rfl⟩) (⟨k0, k1, k2, k3, m2⟩) ?_
           simp only [Act.put, List.setIfInBounds_toArray, List.set_cons_zero, List.set_cons_succ])
    refine mv_step (fun K hK => ?_)
    go_simp
    refine (VE.out _).mono ?_
    rintro e w1 ⟨rfl, hb1⟩
    replace m2 := (hb1.cell (p := ⟨b, 2, none⟩) (show b < V.drew.heap.size from hlt.out)).trans m2
    have hb1 := (Below.refl (w.heap.size + 2) V).drew.trans (hb1.mono (by have := hz.out; show _ ≤ V.heap.size; omega))
    obtain ⟨k0, k1, k2, k3⟩ := hcs.out _ hb1
    go_wp2_with fail
    refine hK.out _ _ _ (fun u hu => hu) (⟨k0, k1, k2, k3, m2⟩) ?_
    clear hK K
    refine mv_done ?_
    go_wp2
    go_ret2
    exact ⟨rfl, hb0.out.trans (hb1.mono (by omega))⟩
  · replace VE := Lib.hid VE
    simp only [show ((2 : Int) = 0) = False by simp, show ((2 : Int) = 1) = False by simp, show ((2 : Int) = 3) = False by simp, show ((2 : Int) = 2) = True by simp, if_true, if_false]
    go_enter Try.func74, Try.ntmps74
    go_upto_region 1 with (fail)
    rw [← eV.out]
    obtain ⟨k0, k1, k2, k3⟩ := hcs.out _ (Below.refl _ _)
    refine region_moves (fun u => u.cell? ⟨w.heap.size, 0, none⟩ = some (.int .i64 p) ∧ u.cell? ⟨w.heap.size, 1, none⟩ = some (.int .i64 e1) ∧ u.cell? ⟨w.heap.size + 1, 0, none⟩ = some (.int .i64 q) ∧ u.cell? ⟨w.heap.size + 1, 1, none⟩ = some (.int .i64 e2) ∧ u.cell? ⟨b, 2, none⟩ = some (.int .i64 tau)) [] [(.take, 0), (.take, 1), (.free, 2), (.free, 3), (.free, 4), (.free, 5), (.take, 6), (.step, 7)] _ (by kernel_rfl) (by kernel_rfl) (by kernel_rfl) (by kernel_rfl) (by decide) rfl (fun _ _ _ _ _ h => h) ?_
    simp only [List.filterMap_cons, List.filterMap_nil, List.getElem?_toArray, List.getElem?_cons_zero, List.getElem?_cons_succ, Option.map_some]
    iterate 2
      first
        | (refine mv_take ?_ (Or.inl ⟨by rfl, ?_⟩) (⟨k0, k1, k2, k3, m2⟩) ?_
           rotate_left 1
           · intro u hu
             (try dsimp only at hu)
             go_simp
             try with_reducible rfl
           simp only [Act.put, List.setIfInBounds_toArray, List.set_cons_zero, List.set_cons_succ])
        | (refine mv_take _ (Or.inr ⟨by rfl, rfl⟩) (⟨k0, k1, k2, k3, m2⟩) ?_
           simp only [Act.put, List.setIfInBounds_toArray, List.set_cons_zero, List.set_cons_succ])
    iterate 4
      first
        | (refine mv_free ?_ (Or.inl ⟨by rfl, ?_⟩) (⟨k0, k1, k2, k3, m2⟩) ?_
           rotate_left 1
           · intro u
             go_simp
             try simp only [d1]
             try simp only [d2]
             try simp only [d3]
             try with_reducible rfl
           simp only [Act.put, List.setIfInBounds_toArray, List.set_cons_zero, List.set_cons_succ])
        | (refine mv_free _ (Or.inr ⟨by rfl, rfl⟩) (⟨k0, k1, k2, k3, m2⟩) ?_
           simp only [Act.put, List.setIfInBounds_toArray, List.set_cons_zero, List.set_cons_succ])
    iterate 1
      first
        | (refine mv_take ?_ (Or.inl ⟨by rfl, ?_⟩) (⟨k0, k1, k2, k3, m2⟩) ?_
           rotate_left 1
           · intro u hu
             (try dsimp only at hu)
             go_simp
             try with_reducible rfl
           simp only [Act.put, List.setIfInBounds_toArray, List.set_cons_zero, List.set_cons_succ])
        | (refine mv_take _ (Or.inr ⟨by rfl, rfl⟩) (⟨k0, k1, k2, k3, m2⟩) ?_
           simp only [Act.put, List.setIfInBounds_toArray, List.set_cons_zero, List.set_cons_succ])
    refine mv_step (fun K hK => ?_)
    go_simp
    refine (VE.out _).mono ?_
    rintro e w1 ⟨rfl, hb1⟩
    replace m2 := (hb1.cell (p := ⟨b, 2, none⟩) (show b < V.drew.heap.size from hlt.out)).trans m2
    have hb1 := (Below.refl (w.heap.size + 2) V).drew.trans (hb1.mono (by have := hz.out; show _ ≤ V.heap.size; omega))
    obtain ⟨k0, k1, k2, k3⟩ := hcs.out _ hb1
    go_wp2_with fail
    refine hK.out _ _ _ (fun u hu => hu) (⟨k0, k1, k2, k3, m2⟩) ?_
    clear hK K
    refine mv_done ?_
    go_wp2
    go_ret2
    exact ⟨rfl, hb0.out.trans (hb1.mono (by omega))⟩
  · replace VE := Lib.hid VE
    simp only [show ((4 : Int) = 0) = False by simp, show ((4 : Int) = 1) = False by simp, show ((4 : Int) = 3) = False by simp, show ((4 : Int) = 2) = False by simp, if_true, if_false]
    go_enter Try.func74, Try.ntmps74
    go_upto_region 1 with (fail)
    rw [← eV.out]
    obtain ⟨k0, k1, k2, k3⟩ := hcs.out _ (Below.refl _ _)
    refine region_moves (fun u => u.cell? ⟨w.heap.size, 0, none⟩ = some (.int .i64 p) ∧ u.cell? ⟨w.heap.size, 1, none⟩ = some (.int .i64 e1) ∧ u.cell? ⟨w.heap.size + 1, 0, none⟩ = some (.int .i64 q) ∧ u.cell? ⟨w.heap.size + 1, 1, none⟩ = some (.int .i64 e2) ∧ u.cell? ⟨b, 2, none⟩ = some (.int .i64 tau)) [] [(.take, 0), (.take, 1), (.free, 2), (.free, 3), (.free, 4), (.free, 5), (.take, 6), (.step, 7)] _ (by kernel_rfl) (by kernel_rfl) (by kernel_rfl) (by kernel_rfl) (by decide) rfl (fun _ _ _ _ _ h => h) ?_
    simp only [List.filterMap_cons, List.filterMap_nil, List.getElem?_toArray, List.getElem?_cons_zero, List.getElem?_cons_succ, Option.map_some]
    iterate 2
      first
        | (refine mv_take ?_ (Or.inl ⟨by rfl, ?_⟩) (⟨k0, k1, k2, k3, m2⟩) ?_
           rotate_left 1
           · intro u hu
             (try dsimp only at hu)
             go_simp
             try with_reducible rfl
           simp only [Act.put, List.setIfInBounds_toArray, List.set_cons_zero, List.set_cons_succ])
        | (refine mv_take _ (Or.inr ⟨by rfl, rfl⟩) (⟨k0, k1, k2, k3, m2⟩) ?_
           simp only [Act.put, List.setIfInBounds_toArray, List.set_cons_zero, List.set_cons_succ])
    iterate 4
      first
        | (refine mv_free ?_ (Or.inl ⟨by rfl, ?_⟩) (⟨k0, k1, k2, k3, m2⟩) ?_
           rotate_left 1
           · intro u
             go_simp
             try simp only [d1]
             try simp only [d2]
             try simp only [d3]
             try with_reducible rfl
           simp only [Act.put, List.setIfInBounds_toArray, List.set_cons_zero, List.set_cons_succ])
        | (refine mv_free _ (Or.inr ⟨by rfl, rfl⟩) (⟨k0, k1, k2, k3, m2⟩) ?_
           simp only [Act.put, List.setIfInBounds_toArray, List.set_cons_zero, List.set_cons_succ])
    iterate 1
      first
        | (refine mv_take ?_ (Or.inl ⟨by rfl, ?_⟩) (⟨k0, k1, k2, k3, m2⟩) ?_
           rotate_left 1
           · intro u hu
             (try dsimp only at hu)
             go_simp
             try with_reducible rfl
           simp only [Act.put, List.setIfInBounds_toArray, List.set_cons_zero, List.set_cons_succ])
        | (refine mv_take _ (Or.inr ⟨by rfl, rfl⟩) (⟨k0, k1, k2, k3, m2⟩) ?_
           simp only [Act.put, List.setIfInBounds_toArray, List.set_cons_zero, List.set_cons_succ])
    refine mv_step (fun K hK => ?_)
    go_simp
    refine (VE.out _).mono ?_
    rintro e w1 ⟨rfl, hb1⟩
    replace m2 := (hb1.cell (p := ⟨b, 2, none⟩) (show b < V.drew.heap.size from hlt.out)).trans m2
    have hb1 := (Below.refl (w.heap.size + 2) V).drew.trans (hb1.mono (by have := hz.out; show _ ≤ V.heap.size; omega))
    obtain ⟨k0, k1, k2, k3⟩ := hcs.out _ hb1
    go_wp2_with fail
    refine hK.out _ _ _ (fun u hu => hu) (⟨k0, k1, k2, k3, m2⟩) ?_
    clear hK K
    refine mv_done ?_
    go_wp2
    go_ret2
    exact ⟨rfl, hb0.out.trans (hb1.mono (by omega))⟩
theorem ste_box (w : World) (b : Nat) (x e1 x2 e2 rate speed : Int) : ∃ V, V = (((((w.alloc (.cells #[.pointer (some ⟨b, 0, none⟩)] 68)).alloc (.cells #[.int .i64 x, .int .i64 e1] 73)).alloc (.cells #[.int .i64 x2, .int .i64 e2] 73)).alloc (.cells #[.int .i64 rate] 2)).alloc (.cells #[.int .i64 speed] 2)) ∧ Below w.heap.size w V ∧ V.heap.size = w.heap.size + 5 ∧ ∀ u, Below (w.heap.size + 5) V u → u.cell? ⟨w.heap.size, 0, none⟩ = some (.pointer (some ⟨b, 0, none⟩)) ∧ u.cell? ⟨w.heap.size + 1, 0, none⟩ = some (.int .i64 x) ∧ u.cell? ⟨w.heap.size + 1, 1, none⟩ = some (.int .i64 e1) ∧ u.cell? ⟨w.heap.size + 2, 0, none⟩ = some (.int .i64 x2) ∧ u.cell? ⟨w.heap.size + 2, 1, none⟩ = some (.int .i64 e2) ∧ u.cell? ⟨w.heap.size + 3, 0, none⟩ = some (.int .i64 rate) ∧ u.cell? ⟨w.heap.size + 4, 0, none⟩ = some (.int .i64 speed) :=
  ⟨_, rfl, (by repeat (first | exact Below.refl _ _ | assumption | apply Below.drew | apply below_drewN | (refine Below.alloc ?_ (by first | exact Nat.le_refl _ | omega | (simp <;> omega)) _) | (refine Below.setCell ?_ (by first | exact Nat.le_refl _ | omega | (simp <;> omega)) _))), by simp, fun u hu => ⟨(bc hu (by omega)).trans (by go_simp), (bc hu (by omega)).trans (by go_simp), (bc hu (by omega)).trans (by go_simp), (bc hu (by omega)).trans (by go_simp), (bc hu (by omega)).trans (by go_simp), (bc hu (by omega)).trans (by go_simp), (bc hu (by omega)).trans (by go_simp)⟩⟩

/-- What a meter tells next, and whether it told. -/
def stY (n o sh y : Int) (kn : Bool) : Int := if o = 3 then y else lgV sh (if kn then y else clq n) (clq n)
def stK (o : Int) (kn : Bool) : Bool := if o = 3 then kn else true
theorem chO_of (p e1 q e2 tau y : Int) (kn : Bool) : chO p e1 q e2 tau y kn = 3 ∨ chO p e1 q e2 tau y kn ≠ 3 := by omega
set_option maxRecDepth 100000 in
set_option maxHeartbeats 8000000 in
theorem astep_any (b f g1 c1 g2 c2 : Nat) (X Y : List Int) (tau arm sh y : Int) (kn : Bool) (x e1 x2 e2 rate speed : Int) (w : World) (h : Met b f g1 c1 g2 c2 X Y tau arm sh y kn w) (hX : X.length ≤ 300) (hY : Y.length ≤ 300) (hs : speed ≤ 9223372036854775807) (hg : agB X Y tau arm sh = true) (y1 : -549755813887 ≤ y) (y2 : y ≤ 549755813887) :
    Calls Try.prog 44 #[.pointer (some ⟨b, 0, none⟩), .agg #[.int .i64 x, .int .i64 e1], .agg #[.int .i64 x2, .int .i64 e2], .int .i64 rate, .int .i64 speed] w fun e w' => e = .returned (.tuple #[.int .i64 (stY (chV (trV X Y arm x rate speed) e1 (trV X Y arm x2 rate speed) e2 tau y kn) (chO (trV X Y arm x rate speed) e1 (trV X Y arm x2 rate speed) e2 tau y kn) sh y kn), .int .i64 (chO (trV X Y arm x rate speed) e1 (trV X Y arm x2 rate speed) e2 tau y kn)]) ∧ Met b f g1 c1 g2 c2 X Y tau arm sh (stY (chV (trV X Y arm x rate speed) e1 (trV X Y arm x2 rate speed) e2 tau y kn) (chO (trV X Y arm x rate speed) e1 (trV X Y arm x2 rate speed) e2 tau y kn) sh y kn) (stK (chO (trV X Y arm x rate speed) e1 (trV X Y arm x2 rate speed) e2 tau y kn) kn) w' ∧ Beside f w w' := by
  obtain ⟨V, eV, hb0, hz, hcs⟩ := ste_box w b x e1 x2 e2 rate speed
  obtain ⟨-, -, -, s1, s2⟩ := agB_at hg
  have W := fun u (k : Below (w.heap.size + 5) V u) => show Below w.heap.size w u from hb0.trans (k.mono (by omega))
  have HM := Lib.hid (fun u (k : Below (w.heap.size + 5) V u) => h.bel (W u k))
  have A1 := Lib.hid (fun u (k : Below (w.heap.size + 5) V u) => aangle_any w.heap.size (w.heap.size + 3) (w.heap.size + 4) b f g1 c1 g2 c2 X Y tau arm sh y kn x e1 rate speed u (h.bel (W u k)) hX hY hs hg (hcs u k).1 (hcs u k).2.2.2.2.2.1 (hcs u k).2.2.2.2.2.2 (by have := k.size; omega) (by have := k.size; omega) (by have := k.size; omega))
  have A2 := Lib.hid (fun u (k : Below (w.heap.size + 5) V u) => aangle_any w.heap.size (w.heap.size + 3) (w.heap.size + 4) b f g1 c1 g2 c2 X Y tau arm sh y kn x2 e2 rate speed u (h.bel (W u k)) hX hY hs hg (hcs u k).1 (hcs u k).2.2.2.2.2.1 (hcs u k).2.2.2.2.2.2 (by have := k.size; omega) (by have := k.size; omega) (by have := k.size; omega))
  generalize trV X Y arm x rate speed = p at *
  generalize trV X Y arm x2 rate speed = q at *
  have CH := Lib.hid (fun u (k : Below (w.heap.size + 5) V u) => achoose_any b f g1 c1 g2 c2 X Y tau arm sh y kn p e1 q e2 u (h.bel (W u k)))
  have AL := Lib.hid (fun u (k : Below (w.heap.size + 5) V u) => aalpha_any b f g1 c1 g2 c2 X Y tau arm sh y kn u (h.bel (W u k)))
  generalize chV p e1 q e2 tau y kn = n at *
  generalize chO p e1 q e2 tau y kn = oo at *
  have LS := Lib.hid (fun u hl => lgstep_any f (kn := kn) n u hl s1 s2 y1 y2)
  replace W := Lib.hid W
  clear h hX hY hs hg y1 y2 s1 s2
  replace hb0 := Lib.hid hb0
  replace hz := Lib.hid hz
  replace hcs := Lib.hid hcs
  replace eV := Lib.hid eV
  by_cases ho : oo = 3
  · subst ho
    rw [show stY n 3 sh y kn = y from if_pos rfl, show stK 3 kn = kn from if_pos rfl]
    clear LS
    go_enter Try.func44, Try.ntmps44
    go_upto_region 1 with (fail)
    rw [← eV.out]
    obtain ⟨k0, k1, k2, k3, k4, k5, k6⟩ := hcs.out _ (Below.refl _ _)
    go_upto_region 4 with (fail)
    refine region_moves (fun u => u.cell? ⟨w.heap.size, 0, none⟩ = some (.pointer (some ⟨b, 0, none⟩)) ∧ u.cell? ⟨w.heap.size + 1, 0, none⟩ = some (.int .i64 x) ∧ u.cell? ⟨w.heap.size + 1, 1, none⟩ = some (.int .i64 e1) ∧ u.cell? ⟨w.heap.size + 2, 0, none⟩ = some (.int .i64 x2) ∧ u.cell? ⟨w.heap.size + 2, 1, none⟩ = some (.int .i64 e2) ∧ u.cell? ⟨w.heap.size + 3, 0, none⟩ = some (.int .i64 rate) ∧ u.cell? ⟨w.heap.size + 4, 0, none⟩ = some (.int .i64 speed)) [] [(.take, 0), (.free, 1), (.take, 2), (.free, 4), (.take, 5), (.step, 3), (.step, 6), (.step, 7), (.free, 8), (.free, 9), (.free, 10), (.free, 11), (.free, 12)] _ (by kernel_rfl) (by kernel_rfl) (by kernel_rfl) (by kernel_rfl) (by decide) rfl (fun _ _ _ _ _ h => h) ?_
    simp only [List.filterMap_cons, List.filterMap_nil, List.getElem?_toArray, List.getElem?_cons_zero, List.getElem?_cons_succ, Option.map_some]
    iterate 1
      first
        | (refine mv_take ?_ (Or.inl ⟨by rfl, ?_⟩) (⟨k0, k1, k2, k3, k4, k5, k6⟩) ?_
           rotate_left 1
           · intro u hu
             (try dsimp only at hu)
             go_simp
             try with_reducible rfl
           simp only [Act.put, List.setIfInBounds_toArray, List.set_cons_zero, List.set_cons_succ])
        | (refine mv_take _ (Or.inr ⟨by rfl, rfl⟩) (⟨k0, k1, k2, k3, k4, k5, k6⟩) ?_
           simp only [Act.put, List.setIfInBounds_toArray, List.set_cons_zero, List.set_cons_succ])
    iterate 1
      first
        | (refine mv_free ?_ (Or.inl ⟨by rfl, ?_⟩) (⟨k0, k1, k2, k3, k4, k5, k6⟩) ?_
           rotate_left 1
           · intro u
             go_simp
             try simp only [d1]
             try simp only [d2]
             try simp only [d3]
             try with_reducible rfl
           simp only [Act.put, List.setIfInBounds_toArray, List.set_cons_zero, List.set_cons_succ])
        | (refine mv_free _ (Or.inr ⟨by rfl, rfl⟩) (⟨k0, k1, k2, k3, k4, k5, k6⟩) ?_
           simp only [Act.put, List.setIfInBounds_toArray, List.set_cons_zero, List.set_cons_succ])
    iterate 1
      first
        | (refine mv_take ?_ (Or.inl ⟨by rfl, ?_⟩) (⟨k0, k1, k2, k3, k4, k5, k6⟩) ?_
           rotate_left 1
           · intro u hu
             (try dsimp only at hu)
             go_simp
             try with_reducible rfl
           simp only [Act.put, List.setIfInBounds_toArray, List.set_cons_zero, List.set_cons_succ])
        | (refine mv_take _ (Or.inr ⟨by rfl, rfl⟩) (⟨k0, k1, k2, k3, k4, k5, k6⟩) ?_
           simp only [Act.put, List.setIfInBounds_toArray, List.set_cons_zero, List.set_cons_succ])
    iterate 1
      first
        | (refine mv_free ?_ (Or.inl ⟨by rfl, ?_⟩) (⟨k0, k1, k2, k3, k4, k5, k6⟩) ?_
           rotate_left 1
           · intro u
             go_simp
             try simp only [d1]
             try simp only [d2]
             try simp only [d3]
             try with_reducible rfl
           simp only [Act.put, List.setIfInBounds_toArray, List.set_cons_zero, List.set_cons_succ])
        | (refine mv_free _ (Or.inr ⟨by rfl, rfl⟩) (⟨k0, k1, k2, k3, k4, k5, k6⟩) ?_
           simp only [Act.put, List.setIfInBounds_toArray, List.set_cons_zero, List.set_cons_succ])
    iterate 1
      first
        | (refine mv_take ?_ (Or.inl ⟨by rfl, ?_⟩) (⟨k0, k1, k2, k3, k4, k5, k6⟩) ?_
           rotate_left 1
           · intro u hu
             (try dsimp only at hu)
             go_simp
             try with_reducible rfl
           simp only [Act.put, List.setIfInBounds_toArray, List.set_cons_zero, List.set_cons_succ])
        | (refine mv_take _ (Or.inr ⟨by rfl, rfl⟩) (⟨k0, k1, k2, k3, k4, k5, k6⟩) ?_
           simp only [Act.put, List.setIfInBounds_toArray, List.set_cons_zero, List.set_cons_succ])
    refine mv_step (fun K hK => ?_)
    go_simp
    refine (A1.out _ ((Below.refl (w.heap.size + 5) V).drew)).mono ?_
    rintro e w1 ⟨rfl, hb1⟩
    have hb1 := ((Below.refl (w.heap.size + 5) V).drew).trans (hb1.mono (by have := hz.out; show _ ≤ V.heap.size; omega))
    obtain ⟨k0, k1, k2, k3, k4, k5, k6⟩ := hcs.out _ hb1
    go_wp2_with fail
    refine hK.out _ _ _ (fun u hu => hu) (⟨k0, k1, k2, k3, k4, k5, k6⟩) ?_
    clear hK K
    refine mv_step (fun K hK => ?_)
    go_simp
    refine (A2.out _ (hb1)).mono ?_
    rintro e w2 ⟨rfl, hb2⟩
    have hb2 := (hb1).trans (hb2.mono (by have := hb1.size; have := hz.out; show _ ≤ w1.heap.size; omega))
    clear hb1
    obtain ⟨k0, k1, k2, k3, k4, k5, k6⟩ := hcs.out _ hb2
    go_wp2_with fail
    refine hK.out _ _ _ (fun u hu => hu) (⟨k0, k1, k2, k3, k4, k5, k6⟩) ?_
    clear hK K
    refine mv_step (fun K hK => ?_)
    go_simp
    refine (CH.out _ (hb2)).mono ?_
    rintro e w3 ⟨rfl, hb3⟩
    have hb3 := (hb2).trans (hb3.mono (by have := hb2.size; have := hz.out; show _ ≤ w2.heap.size; omega))
    clear hb2
    obtain ⟨k0, k1, k2, k3, k4, k5, k6⟩ := hcs.out _ hb3
    go_wp2_with fail
    refine hK.out _ _ _ (fun u hu => hu) (⟨k0, k1, k2, k3, k4, k5, k6⟩) ?_
    clear hK K
    iterate 5
      first
        | (refine mv_free ?_ (Or.inl ⟨by rfl, ?_⟩) (⟨k0, k1, k2, k3, k4, k5, k6⟩) ?_
           rotate_left 1
           · intro u
             go_simp
             try simp only [d1]
             try simp only [d2]
             try simp only [d3]
             try with_reducible rfl
           simp only [Act.put, List.setIfInBounds_toArray, List.set_cons_zero, List.set_cons_succ])
        | (refine mv_free _ (Or.inr ⟨by rfl, rfl⟩) (⟨k0, k1, k2, k3, k4, k5, k6⟩) ?_
           simp only [Act.put, List.setIfInBounds_toArray, List.set_cons_zero, List.set_cons_succ])
    refine mv_done ?_
    go_wp2_with fail
    refine (AL.out _ hb3).mono ?_
    rintro e w4 ⟨rfl, hb4⟩
    have hb4 := hb3.trans (hb4.mono (by have := hb3.size; have := hz.out; omega))
    clear hb3
    obtain ⟨k0, k1, k2, k3, k4, k5, k6⟩ := hcs.out _ hb4
    go_wp2
    go_ret2
    exact ⟨rfl, HM.out _ hb4, Beside.of_below (W.out _ hb4)⟩
  · have d1 : (oo == 3) = false := by simp [ho]
    rw [show stY n oo sh y kn = lgV sh (if kn then y else clq n) (clq n) from if_neg ho, show stK oo kn = true from if_neg ho]
    generalize lgV sh (if kn then y else clq n) (clq n) = R at *
    clear AL ho
    go_enter Try.func44, Try.ntmps44
    go_upto_region 1 with (fail)
    rw [← eV.out]
    obtain ⟨k0, k1, k2, k3, k4, k5, k6⟩ := hcs.out _ (Below.refl _ _)
    go_upto_region 4 with (fail)
    refine region_moves (fun u => u.cell? ⟨w.heap.size, 0, none⟩ = some (.pointer (some ⟨b, 0, none⟩)) ∧ u.cell? ⟨w.heap.size + 1, 0, none⟩ = some (.int .i64 x) ∧ u.cell? ⟨w.heap.size + 1, 1, none⟩ = some (.int .i64 e1) ∧ u.cell? ⟨w.heap.size + 2, 0, none⟩ = some (.int .i64 x2) ∧ u.cell? ⟨w.heap.size + 2, 1, none⟩ = some (.int .i64 e2) ∧ u.cell? ⟨w.heap.size + 3, 0, none⟩ = some (.int .i64 rate) ∧ u.cell? ⟨w.heap.size + 4, 0, none⟩ = some (.int .i64 speed)) [] [(.take, 0), (.free, 1), (.take, 2), (.free, 4), (.take, 5), (.step, 3), (.step, 6), (.step, 7), (.free, 8), (.free, 9), (.free, 10), (.free, 11), (.free, 12)] _ (by kernel_rfl) (by kernel_rfl) (by kernel_rfl) (by kernel_rfl) (by decide) rfl (fun _ _ _ _ _ h => h) ?_
    simp only [List.filterMap_cons, List.filterMap_nil, List.getElem?_toArray, List.getElem?_cons_zero, List.getElem?_cons_succ, Option.map_some]
    iterate 1
      first
        | (refine mv_take ?_ (Or.inl ⟨by rfl, ?_⟩) (⟨k0, k1, k2, k3, k4, k5, k6⟩) ?_
           rotate_left 1
           · intro u hu
             (try dsimp only at hu)
             go_simp
             try with_reducible rfl
           simp only [Act.put, List.setIfInBounds_toArray, List.set_cons_zero, List.set_cons_succ])
        | (refine mv_take _ (Or.inr ⟨by rfl, rfl⟩) (⟨k0, k1, k2, k3, k4, k5, k6⟩) ?_
           simp only [Act.put, List.setIfInBounds_toArray, List.set_cons_zero, List.set_cons_succ])
    iterate 1
      first
        | (refine mv_free ?_ (Or.inl ⟨by rfl, ?_⟩) (⟨k0, k1, k2, k3, k4, k5, k6⟩) ?_
           rotate_left 1
           · intro u
             go_simp
             try simp only [d1]
             try simp only [d2]
             try simp only [d3]
             try with_reducible rfl
           simp only [Act.put, List.setIfInBounds_toArray, List.set_cons_zero, List.set_cons_succ])
        | (refine mv_free _ (Or.inr ⟨by rfl, rfl⟩) (⟨k0, k1, k2, k3, k4, k5, k6⟩) ?_
           simp only [Act.put, List.setIfInBounds_toArray, List.set_cons_zero, List.set_cons_succ])
    iterate 1
      first
        | (refine mv_take ?_ (Or.inl ⟨by rfl, ?_⟩) (⟨k0, k1, k2, k3, k4, k5, k6⟩) ?_
           rotate_left 1
           · intro u hu
             (try dsimp only at hu)
             go_simp
             try with_reducible rfl
           simp only [Act.put, List.setIfInBounds_toArray, List.set_cons_zero, List.set_cons_succ])
        | (refine mv_take _ (Or.inr ⟨by rfl, rfl⟩) (⟨k0, k1, k2, k3, k4, k5, k6⟩) ?_
           simp only [Act.put, List.setIfInBounds_toArray, List.set_cons_zero, List.set_cons_succ])
    iterate 1
      first
        | (refine mv_free ?_ (Or.inl ⟨by rfl, ?_⟩) (⟨k0, k1, k2, k3, k4, k5, k6⟩) ?_
           rotate_left 1
           · intro u
             go_simp
             try simp only [d1]
             try simp only [d2]
             try simp only [d3]
             try with_reducible rfl
           simp only [Act.put, List.setIfInBounds_toArray, List.set_cons_zero, List.set_cons_succ])
        | (refine mv_free _ (Or.inr ⟨by rfl, rfl⟩) (⟨k0, k1, k2, k3, k4, k5, k6⟩) ?_
           simp only [Act.put, List.setIfInBounds_toArray, List.set_cons_zero, List.set_cons_succ])
    iterate 1
      first
        | (refine mv_take ?_ (Or.inl ⟨by rfl, ?_⟩) (⟨k0, k1, k2, k3, k4, k5, k6⟩) ?_
           rotate_left 1
           · intro u hu
             (try dsimp only at hu)
             go_simp
             try with_reducible rfl
           simp only [Act.put, List.setIfInBounds_toArray, List.set_cons_zero, List.set_cons_succ])
        | (refine mv_take _ (Or.inr ⟨by rfl, rfl⟩) (⟨k0, k1, k2, k3, k4, k5, k6⟩) ?_
           simp only [Act.put, List.setIfInBounds_toArray, List.set_cons_zero, List.set_cons_succ])
    refine mv_step (fun K hK => ?_)
    go_simp
    refine (A1.out _ ((Below.refl (w.heap.size + 5) V).drew)).mono ?_
    rintro e w1 ⟨rfl, hb1⟩
    have hb1 := ((Below.refl (w.heap.size + 5) V).drew).trans (hb1.mono (by have := hz.out; show _ ≤ V.heap.size; omega))
    obtain ⟨k0, k1, k2, k3, k4, k5, k6⟩ := hcs.out _ hb1
    go_wp2_with fail
    refine hK.out _ _ _ (fun u hu => hu) (⟨k0, k1, k2, k3, k4, k5, k6⟩) ?_
    clear hK K
    refine mv_step (fun K hK => ?_)
    go_simp
    refine (A2.out _ (hb1)).mono ?_
    rintro e w2 ⟨rfl, hb2⟩
    have hb2 := (hb1).trans (hb2.mono (by have := hb1.size; have := hz.out; show _ ≤ w1.heap.size; omega))
    clear hb1
    obtain ⟨k0, k1, k2, k3, k4, k5, k6⟩ := hcs.out _ hb2
    go_wp2_with fail
    refine hK.out _ _ _ (fun u hu => hu) (⟨k0, k1, k2, k3, k4, k5, k6⟩) ?_
    clear hK K
    refine mv_step (fun K hK => ?_)
    go_simp
    refine (CH.out _ (hb2)).mono ?_
    rintro e w3 ⟨rfl, hb3⟩
    have hb3 := (hb2).trans (hb3.mono (by have := hb2.size; have := hz.out; show _ ≤ w2.heap.size; omega))
    clear hb2
    obtain ⟨k0, k1, k2, k3, k4, k5, k6⟩ := hcs.out _ hb3
    go_wp2_with fail
    refine hK.out _ _ _ (fun u hu => hu) (⟨k0, k1, k2, k3, k4, k5, k6⟩) ?_
    clear hK K
    iterate 5
      first
        | (refine mv_free ?_ (Or.inl ⟨by rfl, ?_⟩) (⟨k0, k1, k2, k3, k4, k5, k6⟩) ?_
           rotate_left 1
           · intro u
             go_simp
             try simp only [d1]
             try simp only [d2]
             try simp only [d3]
             try with_reducible rfl
           simp only [Act.put, List.setIfInBounds_toArray, List.set_cons_zero, List.set_cons_succ])
        | (refine mv_free _ (Or.inr ⟨by rfl, rfl⟩) (⟨k0, k1, k2, k3, k4, k5, k6⟩) ?_
           simp only [Act.put, List.setIfInBounds_toArray, List.set_cons_zero, List.set_cons_succ])
    refine mv_done ?_
    obtain ⟨-, -, -, -, -, m5⟩ := (HM.out _ hb3).cells
    go_wp2_with fail
    refine (LS.out _ (HM.out _ hb3).l).mono ?_
    rintro e w4 ⟨rfl, hl, hb4⟩
    have hM := Lib.hid ((HM.out _ hb3).beside hb4 hl)
    have hB := Lib.hid ((Beside.of_below (b := f) (W.out _ hb3)).trans hb4)
    clear hb4 hl
    go_wp2
    go_ret2
    exact ⟨rfl, hM.out, hB.out⟩
end Go.Proofs.Ytnfbfggkbpobiaa
