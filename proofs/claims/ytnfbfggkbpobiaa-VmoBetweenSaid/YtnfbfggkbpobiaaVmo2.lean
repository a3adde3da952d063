/- Package vmo: the warner; the chapter's example; walked. -/
import Derived.Test.YtnfbfggkbpobiaaVmo1
import Derived.Test.YtnfbfggkbpobiaaHb
import Derived.Test.YtnfbfggkbpobiaaSatClip
import Derived.Test.YtnfbfggkbpobiaaCurve9
namespace Go.Proofs.Ytnfbfggkbpobiaa
open Go.ChangeShapes Go.WideShapes Go.ChangeAt Go.RowKit
set_option linter.unusedVariables false
set_option linter.unusedSimpArgs false

theorem RowIs.beside2 {w w' : World} {f g : Nat} {l : List Int} (h : RowIs .i64 w (some ⟨g, 0, none⟩) l) (k : Beside f w w') (hne : g ≠ f) : RowIs .i64 w' (some ⟨g, 0, none⟩) l := by
  rcases h with rfl | ⟨b, off, e, hlt, hc⟩
  · exact .inl rfl
  · injection e with e
    injection e with e1 e2
    subst e1 e2
    exact .inr ⟨_, _, rfl, Nat.lt_of_lt_of_le hlt k.size, fun i hi => (World.cell?_of_block (a := ⟨g, 0 + i, none⟩) (k.block g hlt hne)).trans (hc i hi)⟩
theorem cop_box (w : World) (ax ay : Option Addr) (cx cy : Nat) (X Y : List Int) : ∃ V, V = ((w.alloc (.cells #[.slice ax X.length cx, .slice ay Y.length cy] 33)).alloc (.cells #[.slice none 0 0, .slice none 0 0] 33)) ∧ Below w.heap.size w V ∧ V.heap.size = w.heap.size + 2 ∧ ∀ u, Below (w.heap.size + 2) V u → u.cell? ⟨w.heap.size, 0, none⟩ = some (.slice ax X.length cx) ∧ u.cell? ⟨w.heap.size, 1, none⟩ = some (.slice ay Y.length cy) ∧ u.cell? ⟨w.heap.size + 1, 0, none⟩ = some (.slice none 0 0) ∧ u.cell? ⟨w.heap.size + 1, 1, none⟩ = some (.slice none 0 0) ∧ u.frozen? ⟨w.heap.size + 1, 0, none⟩ = false ∧ u.frozen? ⟨w.heap.size + 1, 1, none⟩ = false :=
  ⟨_, rfl, (by repeat (first | exact Below.refl _ _ | assumption | apply Below.drew | apply below_drewN | (refine Below.alloc ?_ (by first | exact Nat.le_refl _ | omega | (simp <;> omega)) _) | (refine Below.setCell ?_ (by first | exact Nat.le_refl _ | omega | (simp <;> omega)) _))), by simp, fun u hu => ⟨(bc hu (by omega)).trans (by go_simp), (bc hu (by omega)).trans (by go_simp), (bc hu (by omega)).trans (by go_simp), (bc hu (by omega)).trans (by go_simp), (hu.frozen (p := ⟨w.heap.size + 1, 0, none⟩) (by show w.heap.size + 1 < w.heap.size + 2; omega)).trans (by first | (simp; done) | go_simp), (hu.frozen (p := ⟨w.heap.size + 1, 1, none⟩) (by show w.heap.size + 1 < w.heap.size + 2; omega)).trans (by first | (simp; done) | go_simp)⟩⟩
set_option maxRecDepth 100000 in
set_option maxHeartbeats 8000000 in
theorem vcopied (ax ay : Option Addr) (cx cy : Nat) (X Y : List Int) (w : World) (hx : RowIs .i64 w ax X) (hy : RowIs .i64 w ay Y) (hX : X.length ≤ 300) (hY : Y.length ≤ 300) (n1 : 1 ≤ X.length) (n2 : 1 ≤ Y.length) :
    Calls Try.prog 78 #[.agg #[.slice ax X.length cx, .slice ay Y.length cy]] w fun e w' => ∃ g1 c1 g2 c2 : Nat, e = .returned (.agg #[.slice (some ⟨g1, 0, none⟩) X.length c1, .slice (some ⟨g2, 0, none⟩) Y.length c2]) ∧ RowIs .i64 w' (some ⟨g1, 0, none⟩) X ∧ RowIs .i64 w' (some ⟨g2, 0, none⟩) Y ∧ w.heap.size ≤ g1 ∧ w.heap.size ≤ g2 ∧ Below w.heap.size w w' := by
  obtain ⟨V, eV, hb0, hz, hcs⟩ := cop_box w ax ay cx cy X Y
  have CX := Lib.hid (fun u (h : Below (w.heap.size + 2) V u) => cclone_any ax cx X u (hx.below (hb0.trans (h.mono (by omega)))) hX n1)
  have CY := Lib.hid (fun u (h : Below (w.heap.size + 2) V u) => cclone_any ay cy Y u (hy.below (hb0.trans (h.mono (by omega)))) hY n2)
  clear hx hy hX hY n1 n2
  replace hb0 := Lib.hid hb0
  replace hz := Lib.hid hz
  replace hcs := Lib.hid hcs
  replace eV := Lib.hid eV
  go_enter Try.func78, Try.ntmps78
  go_upto_region 1 with (fail)
  rw [← eV.out]
  obtain ⟨k0, k1, k2, k3, k4, k5⟩ := hcs.out _ (Below.refl _ _)
  refine region_moves (fun u => u.cell? ⟨w.heap.size, 0, none⟩ = some (.slice ax X.length cx) ∧ u.cell? ⟨w.heap.size, 1, none⟩ = some (.slice ay Y.length cy) ∧ u.cell? ⟨w.heap.size + 1, 0, none⟩ = some (.slice none 0 0) ∧ u.cell? ⟨w.heap.size + 1, 1, none⟩ = some (.slice none 0 0) ∧ u.frozen? ⟨w.heap.size + 1, 0, none⟩ = false ∧ u.frozen? ⟨w.heap.size + 1, 1, none⟩ = false) [(7, [(6, 7), (5, 7), (0, 7), (1, 7), (2, 7), (3, 7), (4, 7)])] [(.free, 0), (.take, 1), (.free, 3), (.take, 4), (.step, 2), (.step, 5), (.free, 6), (.late, 7)] _ (by kernel_rfl) (by kernel_rfl) (by kernel_rfl) (by kernel_rfl) (by decide) rfl (fun _ _ _ _ _ h => h) ?_
  simp only [List.filterMap_cons, List.filterMap_nil, List.getElem?_toArray, List.getElem?_cons_zero, List.getElem?_cons_succ, Option.map_some]
  iterate 1
    first
      | (refine mv_free ?_ (Or.inl ⟨by rfl, ?_⟩) (⟨k0, k1, k2, k3, k4, k5⟩) ?_
         rotate_left 1
         · intro u
           go_simp
           try simp only [d1]
           try simp only [d2]
           try simp only [d3]
           try simp only [d4]
           try with_reducible rfl
         simp only [Act.put, List.setIfInBounds_toArray, List.set_cons_zero, List.set_cons_succ])
      | (refine mv_free _ (Or.inr ⟨by rfl, rfl⟩) (⟨k0, k1, k2, k3, k4, k5⟩) ?_
         simp only [Act.put, List.setIfInBounds_toArray, List.set_cons_zero, List.set_cons_succ])
  iterate 1
    first
      | (refine mv_take ?_ (Or.inl ⟨by rfl, ?_⟩) (⟨k0, k1, k2, k3, k4, k5⟩) ?_
         rotate_left 1
         · intro u hu
           (try dsimp only at hu)
           go_simp
           try with_reducible rfl
         simp only [Act.put, List.setIfInBounds_toArray, List.set_cons_zero, List.set_cons_succ])
      | (refine mv_take _ (Or.inr ⟨by rfl, rfl⟩) (⟨k0, k1, k2, k3, k4, k5⟩) ?_
         simp only [Act.put, List.setIfInBounds_toArray, List.set_cons_zero, List.set_cons_succ])
  iterate 1
    first
      | (refine mv_free ?_ (Or.inl ⟨by rfl, ?_⟩) (⟨k0, k1, k2, k3, k4, k5⟩) ?_
         rotate_left 1
         · intro u
           go_simp
           try simp only [d1]
           try simp only [d2]
           try simp only [d3]
           try simp only [d4]
           try with_reducible rfl
         simp only [Act.put, List.setIfInBounds_toArray, List.set_cons_zero, List.set_cons_succ])
      | (refine mv_free _ (Or.inr ⟨by rfl, rfl⟩) (⟨k0, k1, k2, k3, k4, k5⟩) ?_
         simp only [Act.put, List.setIfInBounds_toArray, List.set_cons_zero, List.set_cons_succ])
  iterate 1
    first
      | (refine mv_take ?_ (Or.inl ⟨by rfl, ?_⟩) (⟨k0, k1, k2, k3, k4, k5⟩) ?_
         rotate_left 1
         · intro u hu
           (try dsimp only at hu)
           go_simp
           try with_reducible rfl
         simp only [Act.put, List.setIfInBounds_toArray, List.set_cons_zero, List.set_cons_succ])
      | (refine mv_take _ (Or.inr ⟨by rfl, rfl⟩) (⟨k0, k1, k2, k3, k4, k5⟩) ?_
         simp only [Act.put, List.setIfInBounds_toArray, List.set_cons_zero, List.set_cons_succ])
  refine mv_step (fun K hK => ?_)
  go_simp
  refine (CX.out _ (Below.refl _ _).drew).mono ?_
  rintro e w3 ⟨g1, c1, rfl, r1, hg1, hb3⟩
  have hb3 := (Below.refl (w.heap.size + 2) V).drew.trans (hb3.mono (by have := hz.out; show _ ≤ V.heap.size; omega))
  obtain ⟨k0, k1, k2, k3, k4, k5⟩ := hcs.out _ hb3
  have hg1 : w.heap.size + 2 ≤ g1 := by have := hz.out; have h' : V.heap.size ≤ g1 := hg1; omega
  replace r1 := Lib.hid r1
  go_wp2_with fail
  refine hK.out _ _ _ (fun u hu => hu) (⟨k0, k1, k2, k3, k4, k5⟩) ?_
  clear hK K
  refine mv_step (fun K hK => ?_)
  go_simp
  refine (CY.out _ hb3).mono ?_
  rintro e w4 ⟨g2, c2, rfl, r2, hg2, hb4⟩
  replace r1 := Lib.hid (r1.out.below hb4)
  have hb4 := hb3.trans (hb4.mono (by have := hb3.size; have := hz.out; omega))
  obtain ⟨k0, k1, k2, k3, k4, k5⟩ := hcs.out _ hb4
  have hg2 : w.heap.size + 2 ≤ g2 := by have := hb3.size; have := hz.out; omega
  replace r2 := Lib.hid r2
  go_wp2_with fail
  refine hK.out _ _ _ (fun u hu => hu) (⟨k0, k1, k2, k3, k4, k5⟩) ?_
  clear hK K
  iterate 1
    first
      | (refine mv_free ?_ (Or.inl ⟨by rfl, ?_⟩) (⟨k0, k1, k2, k3, k4, k5⟩) ?_
         rotate_left 1
         · intro u
           go_simp
           try simp only [d1]
           try simp only [d2]
           try simp only [d3]
           try simp only [d4]
           try with_reducible rfl
         simp only [Act.put, List.setIfInBounds_toArray, List.set_cons_zero, List.set_cons_succ])
      | (refine mv_free _ (Or.inr ⟨by rfl, rfl⟩) (⟨k0, k1, k2, k3, k4, k5⟩) ?_
         simp only [Act.put, List.setIfInBounds_toArray, List.set_cons_zero, List.set_cons_succ])
  refine mv_late (fun K hK => ?_)
  go_simp
  refine hK.out (fun _ => True) _ _ ?_
  clear hK K
  refine mv_done ?_
  have z0 := World.cell?_setCell_same w4 ⟨w.heap.size + 1, 0, none⟩ (.slice (some ⟨g1, 0, none⟩) X.length c1) k2
  have z1 := World.cell?_setCell_same (w4.setCell ⟨w.heap.size + 1, 0, none⟩ (.slice (some ⟨g1, 0, none⟩) X.length c1)) ⟨w.heap.size + 1, 1, none⟩ (.slice (some ⟨g2, 0, none⟩) Y.length c2) ((World.cell?_setCell_other _ _ _ _ (by simp)).trans k3)
  have hbl := Lib.hid (((hb0.out.trans (hb4.mono (by omega))).setCell (p := ⟨w.heap.size + 1, 0, none⟩) (by show _ ≤ w.heap.size + 1; omega) (.slice (some ⟨g1, 0, none⟩) X.length c1)).setCell (p := ⟨w.heap.size + 1, 1, none⟩) (by show _ ≤ w.heap.size + 1; omega) (.slice (some ⟨g2, 0, none⟩) Y.length c2))
  replace z0 := Lib.hid ((World.cell?_setCell_other (w4.setCell ⟨w.heap.size + 1, 0, none⟩ (.slice (some ⟨g1, 0, none⟩) X.length c1)) ⟨w.heap.size + 1, 1, none⟩ ⟨w.heap.size + 1, 0, none⟩ (.slice (some ⟨g2, 0, none⟩) Y.length c2) (by simp)).trans z0)
  replace z1 := Lib.hid z1
  replace r1 := Lib.hid ((r1.out.aside ⟨w.heap.size + 1, 0, none⟩ (.slice (some ⟨g1, 0, none⟩) X.length c1) (by show w.heap.size + 1 ≠ g1; omega)).aside ⟨w.heap.size + 1, 1, none⟩ (.slice (some ⟨g2, 0, none⟩) Y.length c2) (by show w.heap.size + 1 ≠ g1; omega))
  replace r2 := Lib.hid ((r2.out.aside ⟨w.heap.size + 1, 0, none⟩ (.slice (some ⟨g1, 0, none⟩) X.length c1) (by show w.heap.size + 1 ≠ g2; omega)).aside ⟨w.heap.size + 1, 1, none⟩ (.slice (some ⟨g2, 0, none⟩) Y.length c2) (by show w.heap.size + 1 ≠ g2; omega))
  go_wp2
  refine bodyPost_ret (v := .agg #[.slice (some ⟨g1, 0, none⟩) X.length c1, .slice (some ⟨g2, 0, none⟩) Y.length c2]) (by simp [results, Try.results78, go_sem, z0.out, z1.out]) rfl ?_
  exact ⟨g1, c1, g2, c2, rfl, r1.out, r2.out, by omega, by omega, hbl.out⟩

def woC (g1 c1 g2 c2 g3 c3 g4 c4 : Nat) (X Y Z T : List Int) (ma mg tk r1 : Int) (o1 : Bool) (r2 : Int) (o2 cr : Bool) : List Value := [.slice (some ⟨g1, 0, none⟩) X.length c1, .slice (some ⟨g2, 0, none⟩) Y.length c2, .slice (some ⟨g3, 0, none⟩) Z.length c3, .slice (some ⟨g4, 0, none⟩) T.length c4, .int .i64 ma, .int .i64 mg, .int .i64 tk, .int .i64 r1, .bool o1, .int .i64 r2, .bool o2, .bool cr]
/-- A warner: its book, the rows of this, its state. -/
structure Wrn (b g1 c1 g2 c2 g3 c3 g4 c4 : Nat) (X Y Z T : List Int) (ma mg tk r1 : Int) (o1 : Bool) (r2 : Int) (o2 cr : Bool) (w : World) : Prop where
  m : Held b (woC g1 c1 g2 c2 g3 c3 g4 c4 X Y Z T ma mg tk r1 o1 r2 o2 cr) w
  x1 : RowIs .i64 w (some ⟨g1, 0, none⟩) X
  x2 : RowIs .i64 w (some ⟨g2, 0, none⟩) Y
  x3 : RowIs .i64 w (some ⟨g3, 0, none⟩) Z
  x4 : RowIs .i64 w (some ⟨g4, 0, none⟩) T
  n1 : g1 ≠ b
  n2 : g2 ≠ b
  n3 : g3 ≠ b
  n4 : g4 ≠ b
theorem Wrn.bel {b g1 c1 g2 c2 g3 c3 g4 c4 : Nat} {X Y Z T : List Int} {ma mg tk r1 : Int} {o1 : Bool} {r2 : Int} {o2 cr : Bool} {w w' : World} (h : Wrn b g1 c1 g2 c2 g3 c3 g4 c4 X Y Z T ma mg tk r1 o1 r2 o2 cr w) (k : Below w.heap.size w w') : Wrn b g1 c1 g2 c2 g3 c3 g4 c4 X Y Z T ma mg tk r1 o1 r2 o2 cr w' :=
  ⟨h.m.bel k, h.x1.below k, h.x2.below k, h.x3.below k, h.x4.below k, h.n1, h.n2, h.n3, h.n4⟩
theorem Wrn.beside {b g1 c1 g2 c2 g3 c3 g4 c4 : Nat} {X Y Z T : List Int} {ma mg tk r1 : Int} {o1 : Bool} {r2 : Int} {o2 cr : Bool} {s1 s2 : Int} {q1 q2 q3 : Bool} {w w' : World} (h : Wrn b g1 c1 g2 c2 g3 c3 g4 c4 X Y Z T ma mg tk r1 o1 r2 o2 cr w) (k : Beside b w w') (hm : Held b (woC g1 c1 g2 c2 g3 c3 g4 c4 X Y Z T ma mg tk s1 q1 s2 q2 q3) w') : Wrn b g1 c1 g2 c2 g3 c3 g4 c4 X Y Z T ma mg tk s1 q1 s2 q2 q3 w' :=
  ⟨hm, h.x1.beside2 k h.n1, h.x2.beside2 k h.n2, h.x3.beside2 k h.n3, h.x4.beside2 k h.n4, h.n1, h.n2, h.n3, h.n4⟩
theorem vnew_box (w : World) (a1 a2 a3 a4 : Option Addr) (e1 e2 e3 e4 : Nat) (X Y Z T : List Int) (ma mg tk : Int) : ∃ V, V = (w.alloc (.cells #[.slice a1 X.length e1, .slice a2 Y.length e2, .slice a3 Z.length e3, .slice a4 T.length e4, .int .i64 ma, .int .i64 mg, .int .i64 tk] 82)) ∧ Below w.heap.size w V ∧ V.heap.size = w.heap.size + 1 ∧ ∀ u, Below (w.heap.size + 1) V u → u.cell? ⟨w.heap.size, 0, none⟩ = some (.slice a1 X.length e1) ∧ u.cell? ⟨w.heap.size, 1, none⟩ = some (.slice a2 Y.length e2) ∧ u.cell? ⟨w.heap.size, 2, none⟩ = some (.slice a3 Z.length e3) ∧ u.cell? ⟨w.heap.size, 3, none⟩ = some (.slice a4 T.length e4) ∧ u.cell? ⟨w.heap.size, 4, none⟩ = some (.int .i64 ma) ∧ u.cell? ⟨w.heap.size, 5, none⟩ = some (.int .i64 mg) ∧ u.cell? ⟨w.heap.size, 6, none⟩ = some (.int .i64 tk) ∧ u.frozen? ⟨w.heap.size, 0, none⟩ = false ∧ u.frozen? ⟨w.heap.size, 1, none⟩ = false ∧ u.frozen? ⟨w.heap.size, 2, none⟩ = false ∧ u.frozen? ⟨w.heap.size, 3, none⟩ = false ∧ u.frozen? ⟨w.heap.size, 4, none⟩ = false ∧ u.frozen? ⟨w.heap.size, 5, none⟩ = false ∧ u.frozen? ⟨w.heap.size, 6, none⟩ = false :=
  ⟨_, rfl, (by repeat (first | exact Below.refl _ _ | assumption | apply Below.drew | apply below_drewN | (refine Below.alloc ?_ (by first | exact Nat.le_refl _ | omega | (simp <;> omega)) _) | (refine Below.setCell ?_ (by first | exact Nat.le_refl _ | omega | (simp <;> omega)) _))), by simp, fun u hu => ⟨(bc hu (by omega)).trans (by go_simp), (bc hu (by omega)).trans (by go_simp), (bc hu (by omega)).trans (by go_simp), (bc hu (by omega)).trans (by go_simp), (bc hu (by omega)).trans (by go_simp), (bc hu (by omega)).trans (by go_simp), (bc hu (by omega)).trans (by go_simp), (hu.frozen (p := ⟨w.heap.size, 0, none⟩) (by show w.heap.size + 0 < w.heap.size + 1; omega)).trans (by first | (simp; done) | go_simp), (hu.frozen (p := ⟨w.heap.size, 1, none⟩) (by show w.heap.size + 0 < w.heap.size + 1; omega)).trans (by first | (simp; done) | go_simp), (hu.frozen (p := ⟨w.heap.size, 2, none⟩) (by show w.heap.size + 0 < w.heap.size + 1; omega)).trans (by first | (simp; done) | go_simp), (hu.frozen (p := ⟨w.heap.size, 3, none⟩) (by show w.heap.size + 0 < w.heap.size + 1; omega)).trans (by first | (simp; done) | go_simp), (hu.frozen (p := ⟨w.heap.size, 4, none⟩) (by show w.heap.size + 0 < w.heap.size + 1; omega)).trans (by first | (simp; done) | go_simp), (hu.frozen (p := ⟨w.heap.size, 5, none⟩) (by show w.heap.size + 0 < w.heap.size + 1; omega)).trans (by first | (simp; done) | go_simp), (hu.frozen (p := ⟨w.heap.size, 6, none⟩) (by show w.heap.size + 0 < w.heap.size + 1; omega)).trans (by first | (simp; done) | go_simp)⟩⟩
set_option maxRecDepth 100000 in
set_option maxHeartbeats 8000000 in
theorem vnew_no (a1 a2 a3 a4 : Option Addr) (e1 e2 e3 e4 : Nat) (X Y Z T : List Int) (ma mg tk : Int) (w : World) (hr1 : RowIs .i64 w a1 X) (hr2 : RowIs .i64 w a2 Y) (hr3 : RowIs .i64 w a3 Z) (hr4 : RowIs .i64 w a4 T) (hl1 : X.length ≤ 300) (hl2 : Y.length ≤ 300) (hl3 : Z.length ≤ 300) (hl4 : T.length ≤ 300) (hw : voB X Y Z T ma mg tk = false) : Calls Try.prog 48 #[.agg #[.slice a1 X.length e1, .slice a2 Y.length e2, .slice a3 Z.length e3, .slice a4 T.length e4, .int .i64 ma, .int .i64 mg, .int .i64 tk]] w fun e w' => e = .returned (.tuple #[.pointer none, .int .i64 1]) ∧ Below w.heap.size w w' := by
  obtain ⟨V, eV, hb0, hz, hcs⟩ := vnew_box w a1 a2 a3 a4 e1 e2 e3 e4 X Y Z T ma mg tk
  have RT := fun u (h : Below (w.heap.size + 1) V u) => vright a1 a2 a3 a4 e1 e2 e3 e4 X Y Z T ma mg tk u (hr1.below (hb0.trans (h.mono (by omega)))) (hr2.below (hb0.trans (h.mono (by omega)))) (hr3.below (hb0.trans (h.mono (by omega)))) (hr4.below (hb0.trans (h.mono (by omega)))) hl1 hl2 hl3 hl4
  rw [hw] at RT
  replace RT := Lib.hid RT
  clear hr1 hr2 hr3 hr4 hl1 hl2 hl3 hl4 hw
  replace hb0 := Lib.hid hb0
  replace hz := Lib.hid hz
  replace hcs := Lib.hid hcs
  replace eV := Lib.hid eV
  go_enter Try.func48, Try.ntmps48
  go_wp2_with fail
  rw [← eV.out]
  obtain ⟨k0, k1, k2, k3, k4, k5, k6, k7, k8, k9, k10, k11, k12, k13⟩ := hcs.out _ (Below.refl _ _)
  go_wp2_with fail
  refine (RT.out _ (Below.refl _ _)).mono ?_
  rintro e w1 ⟨rfl, hb1⟩
  have hb1 := (Below.refl (w.heap.size + 1) V).trans (hb1.mono (Nat.le_of_eq hz.out.symm))
  obtain ⟨k0, k1, k2, k3, k4, k5, k6, k7, k8, k9, k10, k11, k12, k13⟩ := hcs.out _ hb1
  go_wp2
  go_ret2
  exact ⟨rfl, hb0.out.trans (hb1.mono (by omega))⟩
set_option maxRecDepth 100000 in
set_option maxHeartbeats 8000000 in
theorem vnew_ok (a1 a2 a3 a4 : Option Addr) (e1 e2 e3 e4 : Nat) (X Y Z T : List Int) (ma mg tk : Int) (w : World) (hr1 : RowIs .i64 w a1 X) (hr2 : RowIs .i64 w a2 Y) (hr3 : RowIs .i64 w a3 Z) (hr4 : RowIs .i64 w a4 T) (hl1 : X.length ≤ 300) (hl2 : Y.length ≤ 300) (hl3 : Z.length ≤ 300) (hl4 : T.length ≤ 300) (hw : voB X Y Z T ma mg tk = true) : Calls Try.prog 48 #[.agg #[.slice a1 X.length e1, .slice a2 Y.length e2, .slice a3 Z.length e3, .slice a4 T.length e4, .int .i64 ma, .int .i64 mg, .int .i64 tk]] w fun e w' => ∃ b g1 c1 g2 c2 g3 c3 g4 c4 : Nat, e = .returned (.tuple #[.pointer (some ⟨b, 0, none⟩), .int .i64 0]) ∧ Wrn b g1 c1 g2 c2 g3 c3 g4 c4 X Y Z T ma mg tk 0 false 0 false false w' ∧ w.heap.size ≤ b ∧ Below w.heap.size w w' := by
  obtain ⟨V, eV, hb0, hz, hcs⟩ := vnew_box w a1 a2 a3 a4 e1 e2 e3 e4 X Y Z T ma mg tk
  obtain ⟨hg1, hg2, -⟩ := voB_at hw
  obtain ⟨i1, i2, i3, _⟩ := rgtB_at hg1
  obtain ⟨i4, i5, i6, _⟩ := rgtB_at hg2
  have RT := fun u (h : Below (w.heap.size + 1) V u) => vright a1 a2 a3 a4 e1 e2 e3 e4 X Y Z T ma mg tk u (hr1.below (hb0.trans (h.mono (by omega)))) (hr2.below (hb0.trans (h.mono (by omega)))) (hr3.below (hb0.trans (h.mono (by omega)))) (hr4.below (hb0.trans (h.mono (by omega)))) hl1 hl2 hl3 hl4
  have CX := Lib.hid (fun u (h : Below (w.heap.size + 1) V u) => vcopied a1 a2 e1 e2 X Y u (hr1.below (hb0.trans (h.mono (by omega)))) (hr2.below (hb0.trans (h.mono (by omega)))) hl1 hl2 (by omega) (by omega))
  have CY := Lib.hid (fun u (h : Below (w.heap.size + 1) V u) => vcopied a3 a4 e3 e4 Z T u (hr3.below (hb0.trans (h.mono (by omega)))) (hr4.below (hb0.trans (h.mono (by omega)))) hl3 hl4 (by omega) (by omega))
  rw [hw] at RT
  replace RT := Lib.hid RT
  have SZ := Lib.hid (fun (u : World) g1 g2 g3 g4 (h1 : RowIs .i64 u (some ⟨g1, 0, none⟩) X) (h2 : RowIs .i64 u (some ⟨g2, 0, none⟩) Y) (h3 : RowIs .i64 u (some ⟨g3, 0, none⟩) Z) (h4 : RowIs .i64 u (some ⟨g4, 0, none⟩) T) => show g1 < u.heap.size ∧ g2 < u.heap.size ∧ g3 < u.heap.size ∧ g4 < u.heap.size from by
    obtain ⟨_, _, ea, l1, -⟩ := h1.at (show 0 < X.length by omega)
    obtain ⟨_, _, eb, l2, -⟩ := h2.at (show 0 < Y.length by omega)
    obtain ⟨_, _, ec, l3, -⟩ := h3.at (show 0 < Z.length by omega)
    obtain ⟨_, _, ed, l4, -⟩ := h4.at (show 0 < T.length by omega)
    injection ea with ea
    injection eb with eb
    injection ec with ec
    injection ed with ed
    injection ea with ea _
    injection eb with eb _
    injection ec with ec _
    injection ed with ed _
    omega)
  clear hr1 hr2 hr3 hr4 hl1 hl2 hl3 hl4 hw hg1 hg2 i1 i2 i3 i4 i5 i6
  replace hb0 := Lib.hid hb0
  replace hz := Lib.hid hz
  replace hcs := Lib.hid hcs
  replace eV := Lib.hid eV
  go_enter Try.func48, Try.ntmps48
  go_wp2_with fail
  rw [← eV.out]
  obtain ⟨k0, k1, k2, k3, k4, k5, k6, k7, k8, k9, k10, k11, k12, k13⟩ := hcs.out _ (Below.refl _ _)
  go_wp2_with fail
  refine (RT.out _ (Below.refl _ _)).mono ?_
  rintro e w1 ⟨rfl, hb1⟩
  have hb1 := (Below.refl (w.heap.size + 1) V).trans (hb1.mono (Nat.le_of_eq hz.out.symm))
  obtain ⟨k0, k1, k2, k3, k4, k5, k6, k7, k8, k9, k10, k11, k12, k13⟩ := hcs.out _ hb1
  go_wp2_with fail
  refine region_moves (fun u => u.cell? ⟨w.heap.size, 0, none⟩ = some (.slice a1 X.length e1) ∧ u.cell? ⟨w.heap.size, 1, none⟩ = some (.slice a2 Y.length e2) ∧ u.cell? ⟨w.heap.size, 2, none⟩ = some (.slice a3 Z.length e3) ∧ u.cell? ⟨w.heap.size, 3, none⟩ = some (.slice a4 T.length e4) ∧ u.cell? ⟨w.heap.size, 4, none⟩ = some (.int .i64 ma) ∧ u.cell? ⟨w.heap.size, 5, none⟩ = some (.int .i64 mg) ∧ u.cell? ⟨w.heap.size, 6, none⟩ = some (.int .i64 tk) ∧ u.frozen? ⟨w.heap.size, 0, none⟩ = false ∧ u.frozen? ⟨w.heap.size, 1, none⟩ = false ∧ u.frozen? ⟨w.heap.size, 2, none⟩ = false ∧ u.frozen? ⟨w.heap.size, 3, none⟩ = false ∧ u.frozen? ⟨w.heap.size, 4, none⟩ = false ∧ u.frozen? ⟨w.heap.size, 5, none⟩ = false ∧ u.frozen? ⟨w.heap.size, 6, none⟩ = false) [(7, [(6, 7), (2, 7), (5, 7), (0, 7), (1, 7), (3, 7), (4, 7)]), (9, [(8, 9), (5, 9), (7, 9), (0, 9), (1, 9), (2, 9), (3, 9), (4, 9), (6, 9)])] [(.free, 0), (.take, 1), (.free, 3), (.take, 4), (.step, 2), (.free, 6), (.step, 5), (.late, 7), (.free, 8), (.late, 9)] _ (by kernel_rfl) (by kernel_rfl) (by kernel_rfl) (by kernel_rfl) (by decide) rfl (fun _ _ _ _ _ h => h) ?_
  simp only [List.filterMap_cons, List.filterMap_nil, List.getElem?_toArray, List.getElem?_cons_zero, List.getElem?_cons_succ, Option.map_some]
  iterate 1
    first
      | (refine mv_free ?_ (Or.inl ⟨by rfl, ?_⟩) (⟨k0, k1, k2, k3, k4, k5, k6, k7, k8, k9, k10, k11, k12, k13⟩) ?_
         rotate_left 1
         · intro u
           go_simp
           try simp only [d1]
           try simp only [d2]
           try simp only [d3]
           try simp only [d4]
           try with_reducible rfl
         simp only [Act.put, List.setIfInBounds_toArray, List.set_cons_zero, List.set_cons_succ])
      | (refine mv_free _ (Or.inr ⟨by rfl, rfl⟩) (⟨k0, k1, k2, k3, k4, k5, k6, k7, k8, k9, k10, k11, k12, k13⟩) ?_
         simp only [Act.put, List.setIfInBounds_toArray, List.set_cons_zero, List.set_cons_succ])
  iterate 1
    first
      | (refine mv_take ?_ (Or.inl ⟨by rfl, ?_⟩) (⟨k0, k1, k2, k3, k4, k5, k6, k7, k8, k9, k10, k11, k12, k13⟩) ?_
         rotate_left 1
         · intro u hu
           (try dsimp only at hu)
           go_simp
           try with_reducible rfl
         simp only [Act.put, List.setIfInBounds_toArray, List.set_cons_zero, List.set_cons_succ])
      | (refine mv_take _ (Or.inr ⟨by rfl, rfl⟩) (⟨k0, k1, k2, k3, k4, k5, k6, k7, k8, k9, k10, k11, k12, k13⟩) ?_
         simp only [Act.put, List.setIfInBounds_toArray, List.set_cons_zero, List.set_cons_succ])
  iterate 1
    first
      | (refine mv_free ?_ (Or.inl ⟨by rfl, ?_⟩) (⟨k0, k1, k2, k3, k4, k5, k6, k7, k8, k9, k10, k11, k12, k13⟩) ?_
         rotate_left 1
         · intro u
           go_simp
           try simp only [d1]
           try simp only [d2]
           try simp only [d3]
           try simp only [d4]
           try with_reducible rfl
         simp only [Act.put, List.setIfInBounds_toArray, List.set_cons_zero, List.set_cons_succ])
      | (refine mv_free _ (Or.inr ⟨by rfl, rfl⟩) (⟨k0, k1, k2, k3, k4, k5, k6, k7, k8, k9, k10, k11, k12, k13⟩) ?_
         simp only [Act.put, List.setIfInBounds_toArray, List.set_cons_zero, List.set_cons_succ])
  iterate 1
    first
      | (refine mv_take ?_ (Or.inl ⟨by rfl, ?_⟩) (⟨k0, k1, k2, k3, k4, k5, k6, k7, k8, k9, k10, k11, k12, k13⟩) ?_
         rotate_left 1
         · intro u hu
           (try dsimp only at hu)
           go_simp
           try with_reducible rfl
         simp only [Act.put, List.setIfInBounds_toArray, List.set_cons_zero, List.set_cons_succ])
      | (refine mv_take _ (Or.inr ⟨by rfl, rfl⟩) (⟨k0, k1, k2, k3, k4, k5, k6, k7, k8, k9, k10, k11, k12, k13⟩) ?_
         simp only [Act.put, List.setIfInBounds_toArray, List.set_cons_zero, List.set_cons_succ])
  refine mv_step (fun K hK => ?_)
  go_simp
  refine (CX.out _ hb1.drew).mono ?_
  rintro e w3 ⟨g1, c1, g2, c2, rfl, x1, x2, hg1, hg2, hb3⟩
  replace hg1 : w.heap.size + 1 ≤ g1 := by have := hb1.size; have := hz.out; have h9 : w1.heap.size ≤ g1 := hg1; omega
  replace hg2 : w.heap.size + 1 ≤ g2 := by have := hb1.size; have := hz.out; have h9 : w1.heap.size ≤ g2 := hg2; omega
  have hb3 := hb1.drew.trans (hb3.mono (by have := hb1.size; have := hz.out; show _ ≤ w1.heap.size; omega))
  obtain ⟨k0, k1, k2, k3, k4, k5, k6, k7, k8, k9, k10, k11, k12, k13⟩ := hcs.out _ hb3
  replace x1 := Lib.hid x1
  replace x2 := Lib.hid x2
  go_wp2_with fail
  refine hK.out _ _ _ (fun u hu => hu) (⟨k0, k1, k2, k3, k4, k5, k6, k7, k8, k9, k10, k11, k12, k13⟩) ?_
  clear hK K
  iterate 1
    first
      | (refine mv_free ?_ (Or.inl ⟨by rfl, ?_⟩) (⟨k0, k1, k2, k3, k4, k5, k6, k7, k8, k9, k10, k11, k12, k13⟩) ?_
         rotate_left 1
         · intro u
           go_simp
           try simp only [d1]
           try simp only [d2]
           try simp only [d3]
           try simp only [d4]
           try with_reducible rfl
         simp only [Act.put, List.setIfInBounds_toArray, List.set_cons_zero, List.set_cons_succ])
      | (refine mv_free _ (Or.inr ⟨by rfl, rfl⟩) (⟨k0, k1, k2, k3, k4, k5, k6, k7, k8, k9, k10, k11, k12, k13⟩) ?_
         simp only [Act.put, List.setIfInBounds_toArray, List.set_cons_zero, List.set_cons_succ])
  refine mv_step (fun K hK => ?_)
  go_simp
  refine (CY.out _ hb3).mono ?_
  rintro e w4 ⟨g3, c3, g4, c4, rfl, x3, x4, hg3, hg4, hb4⟩
  replace hg3 : w.heap.size + 1 ≤ g3 := by have := hb3.size; have := hz.out; omega
  replace hg4 : w.heap.size + 1 ≤ g4 := by have := hb3.size; have := hz.out; omega
  replace x1 := Lib.hid (x1.out.below hb4)
  replace x2 := Lib.hid (x2.out.below hb4)
  have hb4 := hb3.trans (hb4.mono (by have := hb3.size; have := hz.out; omega))
  obtain ⟨k0, k1, k2, k3, k4, k5, k6, k7, k8, k9, k10, k11, k12, k13⟩ := hcs.out _ hb4
  replace x3 := Lib.hid x3
  replace x4 := Lib.hid x4
  go_wp2_with fail
  refine hK.out _ _ _ (fun u hu => hu) (⟨k0, k1, k2, k3, k4, k5, k6, k7, k8, k9, k10, k11, k12, k13⟩) ?_
  clear hK K
  refine mv_late (fun K hK => ?_)
  go_simp
  refine hK.out (fun _ => True) _ _ ?_
  clear hK K
  iterate 1
    first
      | (refine mv_free ?_ (Or.inl ⟨by rfl, ?_⟩) (trivial) ?_
         rotate_left 1
         · intro u
           go_simp
           try simp only [d1]
           try simp only [d2]
           try simp only [d3]
           try simp only [d4]
           try with_reducible rfl
         simp only [Act.put, List.setIfInBounds_toArray, List.set_cons_zero, List.set_cons_succ])
      | (refine mv_free _ (Or.inr ⟨by rfl, rfl⟩) (trivial) ?_
         simp only [Act.put, List.setIfInBounds_toArray, List.set_cons_zero, List.set_cons_succ])
  refine mv_late (fun K hK => ?_)
  go_simp
  refine hK.out (fun _ => True) _ _ ?_
  clear hK K
  refine mv_done ?_
  obtain ⟨W5, eW5⟩ : ∃ W5, W5 = ((((w4.setCell ⟨w.heap.size, 0, none⟩ (.slice (some ⟨g1, 0, none⟩) X.length c1)).setCell ⟨w.heap.size, 1, none⟩ (.slice (some ⟨g2, 0, none⟩) Y.length c2)).setCell ⟨w.heap.size, 2, none⟩ (.slice (some ⟨g3, 0, none⟩) Z.length c3)).setCell ⟨w.heap.size, 3, none⟩ (.slice (some ⟨g4, 0, none⟩) T.length c4)) := ⟨_, rfl⟩
  have hbs : Beside w.heap.size w4 W5 := by rw [eW5]; exact Beside.setCell (p := ⟨w.heap.size, 3, none⟩) (Beside.setCell (p := ⟨w.heap.size, 2, none⟩) (Beside.setCell (p := ⟨w.heap.size, 1, none⟩) (Beside.setCell (p := ⟨w.heap.size, 0, none⟩) (Beside.of_below (Below.refl _ _)) _) _) _) _
  have z0 : W5.cell? ⟨w.heap.size, 0, none⟩ = some (.slice (some ⟨g1, 0, none⟩) X.length c1) := by rw [eW5]; exact ((World.cell?_setCell_other (((w4.setCell ⟨w.heap.size, 0, none⟩ (.slice (some ⟨g1, 0, none⟩) X.length c1)).setCell ⟨w.heap.size, 1, none⟩ (.slice (some ⟨g2, 0, none⟩) Y.length c2)).setCell ⟨w.heap.size, 2, none⟩ (.slice (some ⟨g3, 0, none⟩) Z.length c3)) ⟨w.heap.size, 3, none⟩ ⟨w.heap.size, 0, none⟩ (.slice (some ⟨g4, 0, none⟩) T.length c4) (by simp)).trans ((World.cell?_setCell_other ((w4.setCell ⟨w.heap.size, 0, none⟩ (.slice (some ⟨g1, 0, none⟩) X.length c1)).setCell ⟨w.heap.size, 1, none⟩ (.slice (some ⟨g2, 0, none⟩) Y.length c2)) ⟨w.heap.size, 2, none⟩ ⟨w.heap.size, 0, none⟩ (.slice (some ⟨g3, 0, none⟩) Z.length c3) (by simp)).trans ((World.cell?_setCell_other (w4.setCell ⟨w.heap.size, 0, none⟩ (.slice (some ⟨g1, 0, none⟩) X.length c1)) ⟨w.heap.size, 1, none⟩ ⟨w.heap.size, 0, none⟩ (.slice (some ⟨g2, 0, none⟩) Y.length c2) (by simp)).trans (World.cell?_setCell_same w4 ⟨w.heap.size, 0, none⟩ (.slice (some ⟨g1, 0, none⟩) X.length c1) k0))))
  have z1 : W5.cell? ⟨w.heap.size, 1, none⟩ = some (.slice (some ⟨g2, 0, none⟩) Y.length c2) := by rw [eW5]; exact ((World.cell?_setCell_other (((w4.setCell ⟨w.heap.size, 0, none⟩ (.slice (some ⟨g1, 0, none⟩) X.length c1)).setCell ⟨w.heap.size, 1, none⟩ (.slice (some ⟨g2, 0, none⟩) Y.length c2)).setCell ⟨w.heap.size, 2, none⟩ (.slice (some ⟨g3, 0, none⟩) Z.length c3)) ⟨w.heap.size, 3, none⟩ ⟨w.heap.size, 1, none⟩ (.slice (some ⟨g4, 0, none⟩) T.length c4) (by simp)).trans ((World.cell?_setCell_other ((w4.setCell ⟨w.heap.size, 0, none⟩ (.slice (some ⟨g1, 0, none⟩) X.length c1)).setCell ⟨w.heap.size, 1, none⟩ (.slice (some ⟨g2, 0, none⟩) Y.length c2)) ⟨w.heap.size, 2, none⟩ ⟨w.heap.size, 1, none⟩ (.slice (some ⟨g3, 0, none⟩) Z.length c3) (by simp)).trans (World.cell?_setCell_same (w4.setCell ⟨w.heap.size, 0, none⟩ (.slice (some ⟨g1, 0, none⟩) X.length c1)) ⟨w.heap.size, 1, none⟩ (.slice (some ⟨g2, 0, none⟩) Y.length c2) ((World.cell?_setCell_other w4 ⟨w.heap.size, 0, none⟩ ⟨w.heap.size, 1, none⟩ (.slice (some ⟨g1, 0, none⟩) X.length c1) (by simp)).trans k1))))
  have z2 : W5.cell? ⟨w.heap.size, 2, none⟩ = some (.slice (some ⟨g3, 0, none⟩) Z.length c3) := by rw [eW5]; exact ((World.cell?_setCell_other (((w4.setCell ⟨w.heap.size, 0, none⟩ (.slice (some ⟨g1, 0, none⟩) X.length c1)).setCell ⟨w.heap.size, 1, none⟩ (.slice (some ⟨g2, 0, none⟩) Y.length c2)).setCell ⟨w.heap.size, 2, none⟩ (.slice (some ⟨g3, 0, none⟩) Z.length c3)) ⟨w.heap.size, 3, none⟩ ⟨w.heap.size, 2, none⟩ (.slice (some ⟨g4, 0, none⟩) T.length c4) (by simp)).trans (World.cell?_setCell_same ((w4.setCell ⟨w.heap.size, 0, none⟩ (.slice (some ⟨g1, 0, none⟩) X.length c1)).setCell ⟨w.heap.size, 1, none⟩ (.slice (some ⟨g2, 0, none⟩) Y.length c2)) ⟨w.heap.size, 2, none⟩ (.slice (some ⟨g3, 0, none⟩) Z.length c3) ((World.cell?_setCell_other (w4.setCell ⟨w.heap.size, 0, none⟩ (.slice (some ⟨g1, 0, none⟩) X.length c1)) ⟨w.heap.size, 1, none⟩ ⟨w.heap.size, 2, none⟩ (.slice (some ⟨g2, 0, none⟩) Y.length c2) (by simp)).trans ((World.cell?_setCell_other w4 ⟨w.heap.size, 0, none⟩ ⟨w.heap.size, 2, none⟩ (.slice (some ⟨g1, 0, none⟩) X.length c1) (by simp)).trans k2))))
  have z3 : W5.cell? ⟨w.heap.size, 3, none⟩ = some (.slice (some ⟨g4, 0, none⟩) T.length c4) := by rw [eW5]; exact (World.cell?_setCell_same (((w4.setCell ⟨w.heap.size, 0, none⟩ (.slice (some ⟨g1, 0, none⟩) X.length c1)).setCell ⟨w.heap.size, 1, none⟩ (.slice (some ⟨g2, 0, none⟩) Y.length c2)).setCell ⟨w.heap.size, 2, none⟩ (.slice (some ⟨g3, 0, none⟩) Z.length c3)) ⟨w.heap.size, 3, none⟩ (.slice (some ⟨g4, 0, none⟩) T.length c4) ((World.cell?_setCell_other ((w4.setCell ⟨w.heap.size, 0, none⟩ (.slice (some ⟨g1, 0, none⟩) X.length c1)).setCell ⟨w.heap.size, 1, none⟩ (.slice (some ⟨g2, 0, none⟩) Y.length c2)) ⟨w.heap.size, 2, none⟩ ⟨w.heap.size, 3, none⟩ (.slice (some ⟨g3, 0, none⟩) Z.length c3) (by simp)).trans ((World.cell?_setCell_other (w4.setCell ⟨w.heap.size, 0, none⟩ (.slice (some ⟨g1, 0, none⟩) X.length c1)) ⟨w.heap.size, 1, none⟩ ⟨w.heap.size, 3, none⟩ (.slice (some ⟨g2, 0, none⟩) Y.length c2) (by simp)).trans ((World.cell?_setCell_other w4 ⟨w.heap.size, 0, none⟩ ⟨w.heap.size, 3, none⟩ (.slice (some ⟨g1, 0, none⟩) X.length c1) (by simp)).trans k3))))
  have z4 : W5.cell? ⟨w.heap.size, 4, none⟩ = some (.int .i64 ma) := by rw [eW5]; exact ((World.cell?_setCell_other (((w4.setCell ⟨w.heap.size, 0, none⟩ (.slice (some ⟨g1, 0, none⟩) X.length c1)).setCell ⟨w.heap.size, 1, none⟩ (.slice (some ⟨g2, 0, none⟩) Y.length c2)).setCell ⟨w.heap.size, 2, none⟩ (.slice (some ⟨g3, 0, none⟩) Z.length c3)) ⟨w.heap.size, 3, none⟩ ⟨w.heap.size, 4, none⟩ (.slice (some ⟨g4, 0, none⟩) T.length c4) (by simp)).trans ((World.cell?_setCell_other ((w4.setCell ⟨w.heap.size, 0, none⟩ (.slice (some ⟨g1, 0, none⟩) X.length c1)).setCell ⟨w.heap.size, 1, none⟩ (.slice (some ⟨g2, 0, none⟩) Y.length c2)) ⟨w.heap.size, 2, none⟩ ⟨w.heap.size, 4, none⟩ (.slice (some ⟨g3, 0, none⟩) Z.length c3) (by simp)).trans ((World.cell?_setCell_other (w4.setCell ⟨w.heap.size, 0, none⟩ (.slice (some ⟨g1, 0, none⟩) X.length c1)) ⟨w.heap.size, 1, none⟩ ⟨w.heap.size, 4, none⟩ (.slice (some ⟨g2, 0, none⟩) Y.length c2) (by simp)).trans ((World.cell?_setCell_other w4 ⟨w.heap.size, 0, none⟩ ⟨w.heap.size, 4, none⟩ (.slice (some ⟨g1, 0, none⟩) X.length c1) (by simp)).trans k4))))
  have z5 : W5.cell? ⟨w.heap.size, 5, none⟩ = some (.int .i64 mg) := by rw [eW5]; exact ((World.cell?_setCell_other (((w4.setCell ⟨w.heap.size, 0, none⟩ (.slice (some ⟨g1, 0, none⟩) X.length c1)).setCell ⟨w.heap.size, 1, none⟩ (.slice (some ⟨g2, 0, none⟩) Y.length c2)).setCell ⟨w.heap.size, 2, none⟩ (.slice (some ⟨g3, 0, none⟩) Z.length c3)) ⟨w.heap.size, 3, none⟩ ⟨w.heap.size, 5, none⟩ (.slice (some ⟨g4, 0, none⟩) T.length c4) (by simp)).trans ((World.cell?_setCell_other ((w4.setCell ⟨w.heap.size, 0, none⟩ (.slice (some ⟨g1, 0, none⟩) X.length c1)).setCell ⟨w.heap.size, 1, none⟩ (.slice (some ⟨g2, 0, none⟩) Y.length c2)) ⟨w.heap.size, 2, none⟩ ⟨w.heap.size, 5, none⟩ (.slice (some ⟨g3, 0, none⟩) Z.length c3) (by simp)).trans ((World.cell?_setCell_other (w4.setCell ⟨w.heap.size, 0, none⟩ (.slice (some ⟨g1, 0, none⟩) X.length c1)) ⟨w.heap.size, 1, none⟩ ⟨w.heap.size, 5, none⟩ (.slice (some ⟨g2, 0, none⟩) Y.length c2) (by simp)).trans ((World.cell?_setCell_other w4 ⟨w.heap.size, 0, none⟩ ⟨w.heap.size, 5, none⟩ (.slice (some ⟨g1, 0, none⟩) X.length c1) (by simp)).trans k5))))
  have z6 : W5.cell? ⟨w.heap.size, 6, none⟩ = some (.int .i64 tk) := by rw [eW5]; exact ((World.cell?_setCell_other (((w4.setCell ⟨w.heap.size, 0, none⟩ (.slice (some ⟨g1, 0, none⟩) X.length c1)).setCell ⟨w.heap.size, 1, none⟩ (.slice (some ⟨g2, 0, none⟩) Y.length c2)).setCell ⟨w.heap.size, 2, none⟩ (.slice (some ⟨g3, 0, none⟩) Z.length c3)) ⟨w.heap.size, 3, none⟩ ⟨w.heap.size, 6, none⟩ (.slice (some ⟨g4, 0, none⟩) T.length c4) (by simp)).trans ((World.cell?_setCell_other ((w4.setCell ⟨w.heap.size, 0, none⟩ (.slice (some ⟨g1, 0, none⟩) X.length c1)).setCell ⟨w.heap.size, 1, none⟩ (.slice (some ⟨g2, 0, none⟩) Y.length c2)) ⟨w.heap.size, 2, none⟩ ⟨w.heap.size, 6, none⟩ (.slice (some ⟨g3, 0, none⟩) Z.length c3) (by simp)).trans ((World.cell?_setCell_other (w4.setCell ⟨w.heap.size, 0, none⟩ (.slice (some ⟨g1, 0, none⟩) X.length c1)) ⟨w.heap.size, 1, none⟩ ⟨w.heap.size, 6, none⟩ (.slice (some ⟨g2, 0, none⟩) Y.length c2) (by simp)).trans ((World.cell?_setCell_other w4 ⟨w.heap.size, 0, none⟩ ⟨w.heap.size, 6, none⟩ (.slice (some ⟨g1, 0, none⟩) X.length c1) (by simp)).trans k6))))
  have hb5 := Lib.hid (show Below w.heap.size w W5 from by rw [eW5]; exact ((((hb0.out.trans (hb4.mono (by omega))).setCell (p := ⟨w.heap.size, 0, none⟩) (Nat.le_refl _) _).setCell (p := ⟨w.heap.size, 1, none⟩) (Nat.le_refl _) _).setCell (p := ⟨w.heap.size, 2, none⟩) (Nat.le_refl _) _).setCell (p := ⟨w.heap.size, 3, none⟩) (Nat.le_refl _) _)
  obtain ⟨y1, y2, y3, y4⟩ := SZ.out _ _ _ _ _ (x1.out.beside2 hbs (by omega)) (x2.out.beside2 hbs (by omega)) (x3.out.beside2 hbs (by omega)) (x4.out.beside2 hbs (by omega))
  have hM := Lib.hid (fun t => show Wrn W5.heap.size g1 c1 g2 c2 g3 c3 g4 c4 X Y Z T ma mg tk 0 false 0 false false (W5.alloc (.cells (woC g1 c1 g2 c2 g3 c3 g4 c4 X Y Z T ma mg tk 0 false 0 false false).toArray t)) from ⟨Held.new W5 _ t, (x1.out.beside2 hbs (by omega)).below ((Below.refl _ _).alloc (Nat.le_refl _) _), (x2.out.beside2 hbs (by omega)).below ((Below.refl _ _).alloc (Nat.le_refl _) _), (x3.out.beside2 hbs (by omega)).below ((Below.refl _ _).alloc (Nat.le_refl _) _), (x4.out.beside2 hbs (by omega)).below ((Below.refl _ _).alloc (Nat.le_refl _) _), by omega, by omega, by omega, by omega⟩)
  rw [← eW5]
  replace eW5 := Lib.hid eW5
  clear k0 k1 k2 k3 k4 k5 k6 k7 k8 k9 k10 k11 k12 k13 hbs hb4 y1 y2 y3 y4
  go_wp2
  go_ret2
  exact ⟨W5.heap.size, g1, c1, g2, c2, g3, c3, g4, c4, rfl, hM.out _, hb5.out.size, hb5.out.alloc hb5.out.size _⟩
end Go.Proofs.Ytnfbfggkbpobiaa
