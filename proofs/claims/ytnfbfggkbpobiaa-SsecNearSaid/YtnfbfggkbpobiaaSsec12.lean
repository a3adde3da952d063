/- The law SsecNear; walked. -/
import Derived.Test.YtnfbfggkbpobiaaSsec9
import Derived.Test.YtnfbfggkbpobiaaTree
import Derived.Deep.Cut
namespace Go.Proofs.Ytnfbfggkbpobiaa
open Go.ChangeShapes Go.WideShapes Go.ChangeAt Go.RowKit
set_option linter.unusedVariables false
set_option linter.unusedSimpArgs false

theorem stF_zero {r : Int} (hr : 1 ≤ r ∧ r ≤ 8) (q al : Int) {p : Int} (hp : 1 ≤ p) : ∀ n, stF flX flY (flN 0) q p al n = p
  | 0 => rfl
  | n + 1 => by
    show max (p - erF flX flY (flN 0) q p al (stF flX flY (flN 0) q p al n)) 1 = p
    rw [erF_const fl0 (flN_all 0)]
    omega
theorem clQ_id {q : Int} (h : 0 ≤ q) (h2 : q ≤ 4294967296) : clQ q = q := by unfold clQ; omega
theorem clP_id {p : Int} (h : 1 ≤ p) (h2 : p ≤ 4294967296) : clP p = p := by unfold clP; omega
theorem scB_r {r : Int} {X Y : List Int} {Z : List (List Int)} (h : scB r X Y Z = true) : 1 ≤ r ∧ r ≤ 8 := ⟨(scB_ws h).1, (scB_ws h).2.1⟩
/-- A correction without errors: four cells in block s. -/
structure Zer (s g1 g2 g3 : Nat) (r : Int) (v : World) : Prop where
  c0 : v.cell? ⟨s, 0, none⟩ = some (.slice (some ⟨g1, 0, none⟩) 2 2)
  c1 : v.cell? ⟨s, 1, none⟩ = some (.slice (some ⟨g2, 0, none⟩) 2 2)
  c2 : v.cell? ⟨s, 2, none⟩ = some (.slice (some ⟨g3, 0, none⟩) 2 2)
  c3 : v.cell? ⟨s, 3, none⟩ = some (.int .i64 r)
/-- A new correction of nothing. -/
structure CoN (s : Nat) (v : World) : Prop where
  c0 : v.cell? ⟨s, 0, none⟩ = some (.slice none 0 0)
  c1 : v.cell? ⟨s, 1, none⟩ = some (.slice none 0 0)
  c2 : v.cell? ⟨s, 2, none⟩ = some (.slice none 0 0)
  c3 : v.cell? ⟨s, 3, none⟩ = some (.int .i64 0)
  f0 : v.frozen? ⟨s, 0, none⟩ = false
  f1 : v.frozen? ⟨s, 1, none⟩ = false
  f2 : v.frozen? ⟨s, 2, none⟩ = false
  f3 : v.frozen? ⟨s, 3, none⟩ = false
  lt : s < v.heap.size
theorem CoN.keep {s : Nat} {v v' : World} (h : CoN s v) (k : Below v.heap.size v v') : CoN s v' :=
  ⟨(k.cell (p := ⟨s, 0, none⟩) h.lt).trans h.c0, (k.cell (p := ⟨s, 1, none⟩) h.lt).trans h.c1, (k.cell (p := ⟨s, 2, none⟩) h.lt).trans h.c2, (k.cell (p := ⟨s, 3, none⟩) h.lt).trans h.c3, (k.frozen (p := ⟨s, 0, none⟩) h.lt).trans h.f0, (k.frozen (p := ⟨s, 1, none⟩) h.lt).trans h.f1, (k.frozen (p := ⟨s, 2, none⟩) h.lt).trans h.f2, (k.frozen (p := ⟨s, 3, none⟩) h.lt).trans h.f3, Nat.lt_of_lt_of_le h.lt k.size⟩
theorem CoN.drew {s : Nat} {v : World} (h : CoN s v) : CoN s v.drew := ⟨h.c0, h.c1, h.c2, h.c3, h.f0, h.f1, h.f2, h.f3, h.lt⟩
theorem co_alloc (w : World) : ∃ v, v = w.alloc (.cells #[.slice none 0 0, .slice none 0 0, .slice none 0 0, .int .i64 0] 48) ∧ Below w.heap.size w v ∧ CoN w.heap.size v ∧ v.heap.size = w.heap.size + 1 :=
  ⟨_, rfl, (Below.refl _ _).alloc (Nat.le_refl _) _, ⟨by go_simp, by go_simp, by go_simp, by go_simp, by first | (simp; done) | go_simp, by first | (simp; done) | go_simp, by first | (simp; done) | go_simp, by first | (simp; done) | go_simp, by simp⟩, by simp⟩
/-- The new correction, its cells laid. -/
theorem CoN.laid {s : Nat} {v : World} (h : CoN s v) (g1 g2 g3 : Nat) (r : Int) : ∃ u, u = (((v.setCell ⟨s, 0, none⟩ (.slice (some ⟨g1, 0, none⟩) 2 2)).setCell ⟨s, 1, none⟩ (.slice (some ⟨g2, 0, none⟩) 2 2)).setCell ⟨s, 2, none⟩ (.slice (some ⟨g3, 0, none⟩) 2 2)).setCell ⟨s, 3, none⟩ (.int .i64 r) ∧ Zer s g1 g2 g3 r u ∧ u.heap.size = v.heap.size ∧ v.grownBy u (some s) := by
  refine ⟨_, rfl, ⟨?_, ?_, ?_, ?_⟩, by simp, rfl, rfl, rfl, by simp, fun k hk hne => ?_⟩
  · rw [World.cell?_setCell_other _ _ _ _ (by simp), World.cell?_setCell_other _ _ _ _ (by simp), World.cell?_setCell_other _ _ _ _ (by simp)]
    exact World.cell?_setCell_same _ _ _ h.c0
  · rw [World.cell?_setCell_other _ _ _ _ (by simp), World.cell?_setCell_other _ _ _ _ (by simp)]
    exact World.cell?_setCell_same _ _ _ ((World.cell?_setCell_other _ _ _ _ (by simp)).trans h.c1)
  · rw [World.cell?_setCell_other _ _ _ _ (by simp)]
    exact World.cell?_setCell_same _ _ _ ((World.cell?_setCell_other _ _ _ _ (by simp)).trans ((World.cell?_setCell_other _ _ _ _ (by simp)).trans h.c2))
  · exact World.cell?_setCell_same _ _ _ ((World.cell?_setCell_other _ _ _ _ (by simp)).trans ((World.cell?_setCell_other _ _ _ _ (by simp)).trans ((World.cell?_setCell_other _ _ _ _ (by simp)).trans h.c3)))
  · have hk' : k ≠ s := fun e => hne (by rw [e])
    rw [Below.heap_setCell _ _ _ _ hk', Below.heap_setCell _ _ _ _ hk', Below.heap_setCell _ _ _ _ hk', Below.heap_setCell _ _ _ _ hk']
/-- The rows of a sheet of one error, new from block b on. -/
structure FlatG (n : Int) (b g1 g2 g3 g4 g5 : Nat) (v : World) : Prop where
  x : RowIs .i64 v (some ⟨g1, 0, none⟩) flX
  y : RowIs .i64 v (some ⟨g2, 0, none⟩) flY
  z0 : v.cell? ⟨g3, 0, none⟩ = some (.slice (some ⟨g4, 0, none⟩) 2 2)
  z1 : v.cell? ⟨g3, 1, none⟩ = some (.slice (some ⟨g5, 0, none⟩) 2 2)
  r0 : RowIs .i64 v (some ⟨g4, 0, none⟩) [n, n]
  r1 : RowIs .i64 v (some ⟨g5, 0, none⟩) [n, n]
  b1 : b ≤ g1 ∧ g1 < v.heap.size
  b2 : b ≤ g2 ∧ g2 < v.heap.size
  b3 : b ≤ g3 ∧ g3 < v.heap.size
  b4 : b ≤ g4 ∧ g4 < v.heap.size
  b5 : b ≤ g5 ∧ g5 < v.heap.size
theorem FlatG.grid {n : Int} {b g1 g2 g3 g4 g5 : Nat} {v : World} (h : FlatG n b g1 g2 g3 g4 g5 v) : GridIs .i64 v (some ⟨g3, 0, none⟩) (two (some ⟨g4, 0, none⟩) (some ⟨g5, 0, none⟩)) (fun _ => 2) (flN n) := grid2_at h.b3.2 h.z0 h.z1 h.r0 h.r1
theorem FlatG.keep {n : Int} {b g1 g2 g3 g4 g5 : Nat} {v v' : World} (h : FlatG n b g1 g2 g3 g4 g5 v) (k : Below v.heap.size v v') : FlatG n b g1 g2 g3 g4 g5 v' :=
  ⟨h.x.below k, h.y.below k, (k.cell (p := ⟨g3, 0, none⟩) h.b3.2).trans h.z0, (k.cell (p := ⟨g3, 1, none⟩) h.b3.2).trans h.z1, h.r0.below k, h.r1.below k, ⟨h.b1.1, Nat.lt_of_lt_of_le h.b1.2 k.size⟩, ⟨h.b2.1, Nat.lt_of_lt_of_le h.b2.2 k.size⟩, ⟨h.b3.1, Nat.lt_of_lt_of_le h.b3.2 k.size⟩, ⟨h.b4.1, Nat.lt_of_lt_of_le h.b4.2 k.size⟩, ⟨h.b5.1, Nat.lt_of_lt_of_le h.b5.2 k.size⟩⟩
theorem row_of_blk {w w' : World} {g : Nat} {l : List Int} (h : RowIs .i64 w (some ⟨g, 0, none⟩) l) (hlt : g < w'.heap.size) (e : w'.heap[g]? = w.heap[g]?) : RowIs .i64 w' (some ⟨g, 0, none⟩) l := by
  rcases h with rfl | ⟨b, off, e1, _, hc⟩
  · exact .inl rfl
  · injection e1 with e1
    injection e1 with e1 e2
    subst e1 e2
    exact .inr ⟨_, _, rfl, hlt, fun i hi => (World.cell?_of_block e).trans (hc i hi)⟩
/-- What is written into another block leaves the sheet. -/
theorem FlatG.aside {n : Int} {b g1 g2 g3 g4 g5 s : Nat} {v v' : World} (h : FlatG n b g1 g2 g3 g4 g5 v) (k : v.grownBy v' (some s)) (hs : s < b ∨ (s ≠ g1 ∧ s ≠ g2 ∧ s ≠ g3 ∧ s ≠ g4 ∧ s ≠ g5)) : FlatG n b g1 g2 g3 g4 g5 v' := by
  have q1 := h.b1
  have q2 := h.b2
  have q3 := h.b3
  have q4 := h.b4
  have q5 := h.b5
  have hz := k.size
  have hh : ∀ g, g < v.heap.size → g ≠ s → v'.heap[g]? = v.heap[g]? := fun g hg hne => k.block g hg (by simpa using hne)
  have n3 := hh g3 q3.2 (by omega)
  exact ⟨row_of_blk h.x (by omega) (hh g1 q1.2 (by omega)), row_of_blk h.y (by omega) (hh g2 q2.2 (by omega)), (World.cell?_of_block n3).trans h.z0, (World.cell?_of_block n3).trans h.z1, row_of_blk h.r0 (by omega) (hh g4 q4.2 (by omega)), row_of_blk h.r1 (by omega) (hh g5 q5.2 (by omega)), ⟨q1.1, by omega⟩, ⟨q2.1, by omega⟩, ⟨q3.1, by omega⟩, ⟨q4.1, by omega⟩, ⟨q5.1, by omega⟩⟩
theorem Zer.keep {s g1 g2 g3 : Nat} {r : Int} {v v' : World} (h : Zer s g1 g2 g3 r v) (hs : s < v.heap.size) (k : Below v.heap.size v v') : Zer s g1 g2 g3 r v' :=
  ⟨(k.cell (p := ⟨s, 0, none⟩) hs).trans h.c0, (k.cell (p := ⟨s, 1, none⟩) hs).trans h.c1, (k.cell (p := ⟨s, 2, none⟩) hs).trans h.c2, (k.cell (p := ⟨s, 3, none⟩) hs).trans h.c3⟩
/-- A sheet of one error lies there, all of it new. -/
def FlatQ (n : Int) (w : World) (e : Ending) (w' : World) : Prop := ∃ (g1 g2 g3 g4 g5 : Nat), e = .returned (.agg #[.slice (some ⟨g1, 0, none⟩) 2 2, .slice (some ⟨g2, 0, none⟩) 2 2, .slice (some ⟨g3, 0, none⟩) 2 2]) ∧ FlatG n w.heap.size g1 g2 g3 g4 g5 w' ∧ Below w.heap.size w w'
set_option maxRecDepth 100000 in
set_option maxHeartbeats 8000000 in
theorem sscflatq (n : Int) (w : World) : Calls Try.prog 39 #[.int .i64 n] w (FlatQ n w) := by
  unfold FlatQ
  go_enter Try.func39, Try.ntmps39
  go_wp2
  refine bodyPost_ret (v := .agg #[.slice (some ⟨w.heap.size + 1, 0, none⟩) 2 2, .slice (some ⟨w.heap.size + 1 + 1, 0, none⟩) 2 2, .slice (some ⟨w.heap.size + 1 + 1 + 1 + 1 + 1, 0, none⟩) 2 2]) (by simp [results, Try.results39, go_sem]) rfl ⟨_, _, _, w.heap.size + 1 + 1 + 1, w.heap.size + 1 + 1 + 1 + 1, rfl, ⟨row2_at (by simp; try omega) (by go_simp) (by go_simp), row2_at (by simp; try omega) (by go_simp) (by go_simp), by go_simp, by go_simp, row2_at (by simp; try omega) (by go_simp) (by go_simp), row2_at (by simp; try omega) (by go_simp) (by go_simp), ⟨by omega, by simp; try omega⟩, ⟨by omega, by simp; try omega⟩, ⟨by omega, by simp; try omega⟩, ⟨by omega, by simp; try omega⟩, ⟨by omega, by simp; try omega⟩⟩, (by repeat (first | exact Below.refl _ _ | assumption | apply Below.drew | apply below_drewN | (refine Below.alloc ?_ (by first | exact Nat.le_refl _ | omega | (simp <;> omega)) _) | (refine Below.setCell ?_ (by first | exact Nat.le_refl _ | omega | (simp <;> omega)) _)))⟩

theorem ss12_box (w : World) (a1 a2 a3 : Option Addr) (e1 e2 e3 : Nat) (X Y : List Int) (Z : List (List Int)) (r q p al : Int) : ∃ V, V = ((w.alloc (.cells #[.slice a1 X.length e1, .slice a2 Y.length e2, .slice a3 Z.length e3, .int .i64 r] 48)).alloc (.cells #[.int .i64 q, .int .i64 p, .int .i64 al] 55)) ∧ Below w.heap.size w V ∧ V.heap.size = w.heap.size + 2 ∧ ∀ u, Below (w.heap.size + 2) V u → u.cell? ⟨w.heap.size, 0, none⟩ = some (.slice a1 X.length e1) ∧ u.cell? ⟨w.heap.size, 1, none⟩ = some (.slice a2 Y.length e2) ∧ u.cell? ⟨w.heap.size, 2, none⟩ = some (.slice a3 Z.length e3) ∧ u.cell? ⟨w.heap.size, 3, none⟩ = some (.int .i64 r) ∧ u.cell? ⟨w.heap.size + 1, 0, none⟩ = some (.int .i64 q) ∧ u.cell? ⟨w.heap.size + 1, 1, none⟩ = some (.int .i64 p) ∧ u.cell? ⟨w.heap.size + 1, 2, none⟩ = some (.int .i64 al) :=
  ⟨_, rfl, (by repeat (first | exact Below.refl _ _ | assumption | apply Below.drew | apply below_drewN | (refine Below.alloc ?_ (by first | exact Nat.le_refl _ | omega | (simp <;> omega)) _) | (refine Below.setCell ?_ (by first | exact Nat.le_refl _ | omega | (simp <;> omega)) _))), by simp, fun u hu => ⟨(bc hu (by omega)).trans (by go_simp), (bc hu (by omega)).trans (by go_simp), (bc hu (by omega)).trans (by go_simp), (bc hu (by omega)).trans (by go_simp), (bc hu (by omega)).trans (by go_simp), (bc hu (by omega)).trans (by go_simp), (bc hu (by omega)).trans (by go_simp)⟩⟩
set_option maxRecDepth 100000 in
set_option maxHeartbeats 8000000 in
theorem law_SsecNear (a1 a2 a3 : Option Addr) (GA : Nat → Option Addr) (GC : Nat → Nat) (e1 e2 e3 : Nat) (X Y : List Int) (Z : List (List Int)) (r q p al : Int) (w : World) (hx : RowIs .i64 w a1 X) (hy : RowIs .i64 w a2 Y) (hg : GridIs .i64 w a3 GA GC Z) (q1 : -9223372036854775808 ≤ q) (q2 : q ≤ 9223372036854775807) (p1 : -9223372036854775808 ≤ p) (p2 : p ≤ 9223372036854775807) : Calls Try.prog 10 #[.agg #[.slice a1 X.length e1, .slice a2 Y.length e2, .slice a3 Z.length e3, .int .i64 r], .agg #[.int .i64 q, .int .i64 p, .int .i64 al]] w fun e w' => e = .returned (.bool true) ∧ Below w.heap.size w w' := by
  obtain ⟨V, eV, hb0, hz, hcs⟩ := ss12_box w a1 a2 a3 e1 e2 e3 X Y Z r q p al
  have LV := Lib.hid (fun u => lives38 u)
  have GR := Lib.hid (fun u (h : Below (w.heap.size + 2) V u) => sgreat38 a1 a2 a3 GA GC e1 e2 e3 X Y Z u (hg.below (hb0.trans (h.mono (by omega)))))
  have RS := Lib.hid (fun hX hY hZ hR u (h : Below (w.heap.size + 2) V u) => sscright a1 a2 a3 GA GC e1 e2 e3 X Y Z r u (hx.below (hb0.trans (h.mono (by omega)))) (hy.below (hb0.trans (h.mono (by omega)))) (hg.below (hb0.trans (h.mono (by omega)))) hX hY hZ hR)
  have WO := Lib.hid (fun hX hY hZ hR u (h : Below (w.heap.size + 2) V u) => sscworst a1 a2 a3 GA GC e1 e2 e3 X Y Z r u (hx.below (hb0.trans (h.mono (by omega)))) (hy.below (hb0.trans (h.mono (by omega)))) (hg.below (hb0.trans (h.mono (by omega)))) hX hY hZ hR)
  have II := Lib.hid (fun hX hY hZ hR u (h : Below (w.heap.size + 2) V u) => sscimp a1 a2 a3 GA GC e1 e2 e3 X Y Z r q p al u (hx.below (hb0.trans (h.mono (by omega)))) (hy.below (hb0.trans (h.mono (by omega)))) (hg.below (hb0.trans (h.mono (by omega)))) hX hY hZ hR)
  have MM := Lib.hid (fun hX hY hZ hR u (h : Below (w.heap.size + 2) V u) => sscmea a1 a2 a3 GA GC e1 e2 e3 X Y Z r q p al u (hx.below (hb0.trans (h.mono (by omega)))) (hy.below (hb0.trans (h.mono (by omega)))) (hg.below (hb0.trans (h.mono (by omega)))) hX hY hZ hR)
  clear hx hy hg
  replace hb0 := Lib.hid hb0
  replace hz := Lib.hid hz
  replace hcs := Lib.hid hcs
  replace eV := Lib.hid eV
  go_enter Try.func10, Try.ntmps10
  go_wp2_with fail
  rw [← eV.out]
  obtain ⟨k0, k1, k2, k3, k4, k5, k6⟩ := hcs.out _ (Below.refl _ _)
  go_wp2_with fail
  refine (GR.out _ (Below.refl _ _)).mono ?_
  rintro e w1 ⟨g, rfl, hgb, hb1⟩
  have hb1 := (Below.refl (w.heap.size + 2) V).trans (hb1.mono (Nat.le_of_eq hz.out.symm))
  obtain ⟨k0, k1, k2, k3, k4, k5, k6⟩ := hcs.out _ hb1
  cases g
  case true =>
    clear hgb RS WO II MM
    go_wp2_with fail
    refine (LV.out _).mono ?_
    rintro e w20 ⟨rfl, hb20⟩
    have hb20 := hb1.trans (hb20.mono (by have := hb1.size; have := hz.out; omega))
    go_wp2
    go_ret
    exact ⟨rfl, hb0.out.trans (hb20.mono (by omega))⟩
  case false =>
  obtain ⟨hX, hY, hZ, hR⟩ := hgb rfl
  have RS1 := RS.out hX hY hZ hR
  have WO1 := WO.out hX hY hZ hR
  have II1 := II.out hX hY hZ hR
  have MM1 := MM.out hX hY hZ hR
  clear hgb RS WO II MM hX hY hZ hR
  cases hs : scB r X Y Z
  · rw [hs] at RS1
    replace RS1 := Lib.hid RS1
    clear WO1 II1 MM1 hs
    go_wp2_with fail
    refine (RS1.out _ hb1).mono ?_
    rintro e w2 ⟨rfl, hb2⟩
    have hb2 := hb1.trans (hb2.mono (by have := hb1.size; have := hz.out; omega))
    clear hb1
    obtain ⟨k0, k1, k2, k3, k4, k5, k6⟩ := hcs.out _ hb2
    go_wp2_with fail
    refine (LV.out _).mono ?_
    rintro e w20 ⟨rfl, hb20⟩
    have hb20 := hb2.trans (hb20.mono (by have := hb2.size; have := hz.out; omega))
    go_wp2
    go_ret
    exact ⟨rfl, hb0.out.trans (hb20.mono (by omega))⟩
  rw [hs] at RS1 WO1 II1 MM1
  simp only [if_true] at WO1 II1 MM1
  replace RS1 := Lib.hid RS1
  rcases (show q < 0 ∨ (0 ≤ q ∧ 4294967296 < q) ∨ (0 ≤ q ∧ q ≤ 4294967296 ∧ p < 200000) ∨ (0 ≤ q ∧ q ≤ 4294967296 ∧ 200000 ≤ p ∧ 4294967296 < p) ∨ (0 ≤ q ∧ q ≤ 4294967296 ∧ 200000 ≤ p ∧ p ≤ 4294967296) by omega) with h | ⟨h, h2⟩ | ⟨h, h2, h3⟩ | ⟨h, h2, h3, h4⟩ | ⟨h, h2, h3, h4⟩
  · clear WO1 II1 MM1 hs
    go_wp2_with fail
    refine (RS1.out _ hb1).mono ?_
    rintro e w2 ⟨rfl, hb2⟩
    have hb2 := hb1.trans (hb2.mono (by have := hb1.size; have := hz.out; omega))
    clear hb1
    obtain ⟨k0, k1, k2, k3, k4, k5, k6⟩ := hcs.out _ hb2
    go_wp2_with fail
    refine (LV.out _).mono ?_
    rintro e w20 ⟨rfl, hb20⟩
    have hb20 := hb2.trans (hb20.mono (by have := hb2.size; have := hz.out; omega))
    go_wp2
    go_ret
    exact ⟨rfl, hb0.out.trans (hb20.mono (by omega))⟩
  · clear WO1 II1 MM1 hs
    go_wp2_with fail
    refine (RS1.out _ hb1).mono ?_
    rintro e w2 ⟨rfl, hb2⟩
    have hb2 := hb1.trans (hb2.mono (by have := hb1.size; have := hz.out; omega))
    clear hb1
    obtain ⟨k0, k1, k2, k3, k4, k5, k6⟩ := hcs.out _ hb2
    go_wp2_with fail
    refine (LV.out _).mono ?_
    rintro e w20 ⟨rfl, hb20⟩
    have hb20 := hb2.trans (hb20.mono (by have := hb2.size; have := hz.out; omega))
    go_wp2
    go_ret
    exact ⟨rfl, hb0.out.trans (hb20.mono (by omega))⟩
  · clear WO1 II1 MM1 hs
    go_wp2_with fail
    refine (RS1.out _ hb1).mono ?_
    rintro e w2 ⟨rfl, hb2⟩
    have hb2 := hb1.trans (hb2.mono (by have := hb1.size; have := hz.out; omega))
    clear hb1
    obtain ⟨k0, k1, k2, k3, k4, k5, k6⟩ := hcs.out _ hb2
    go_wp2_with fail
    refine (LV.out _).mono ?_
    rintro e w20 ⟨rfl, hb20⟩
    have hb20 := hb2.trans (hb20.mono (by have := hb2.size; have := hz.out; omega))
    go_wp2
    go_ret
    exact ⟨rfl, hb0.out.trans (hb20.mono (by omega))⟩
  · clear WO1 II1 MM1 hs
    go_wp2_with fail
    refine (RS1.out _ hb1).mono ?_
    rintro e w2 ⟨rfl, hb2⟩
    have hb2 := hb1.trans (hb2.mono (by have := hb1.size; have := hz.out; omega))
    clear hb1
    obtain ⟨k0, k1, k2, k3, k4, k5, k6⟩ := hcs.out _ hb2
    go_wp2_with fail
    refine (LV.out _).mono ?_
    rintro e w20 ⟨rfl, hb20⟩
    have hb20 := hb2.trans (hb20.mono (by have := hb2.size; have := hz.out; omega))
    go_wp2
    go_ret
    exact ⟨rfl, hb0.out.trans (hb20.mono (by omega))⟩
  rw [clQ_id h h2, clP_id (by omega) h4] at II1 MM1
  have hr := scB_r hs
  have nr := stF_near hs q al (p := p) (by omega) r.toNat
  have e1 := erF_in (scB_sh hs) q p al p
  have w8 := (scB_ws hs).2.2
  have w0 := wsZ_nn Z
  have IZ := fun g1 g2 g3 g4 g5 u h1 h2 h3 => sscimp (some ⟨g1, 0, none⟩) (some ⟨g2, 0, none⟩) (some ⟨g3, 0, none⟩) (two (some ⟨g4, 0, none⟩) (some ⟨g5, 0, none⟩)) (fun _ => 2) 2 2 2 flX flY (flN 0) r q p al u h1 h2 h3 (by decide) (by decide) (by decide) (by decide)
  rw [fl0r hr] at IZ
  simp only [if_true] at IZ
  rw [clQ_id h h2, clP_id (by omega) h4, stF_zero hr q al (by omega), show max (q + p - p) 0 = q by omega] at IZ
  replace IZ : ∀ g1 g2 g3 g4 g5 u, RowIs .i64 u (some ⟨g1, 0, none⟩) flX → RowIs .i64 u (some ⟨g2, 0, none⟩) flY → GridIs .i64 u (some ⟨g3, 0, none⟩) (two (some ⟨g4, 0, none⟩) (some ⟨g5, 0, none⟩)) (fun _ => 2) (flN 0) → Calls Try.prog 35 #[.agg #[.slice (some ⟨g1, 0, none⟩) 2 2, .slice (some ⟨g2, 0, none⟩) 2 2, .slice (some ⟨g3, 0, none⟩) 2 2, .int .i64 r], .int .i64 q, .int .i64 p, .int .i64 al] u fun e w' => e = .returned (.tuple #[.int .i64 q, .int .i64 p, .bool true]) ∧ Below u.heap.size u w' := IZ
  replace IZ := Lib.hid IZ
  generalize stF X Y Z q p al r.toNat = t at *
  generalize erF X Y Z q p al p = e at *
  generalize wsZ Z = n at *
  have AB1 := Lib.hid (fun u => ssabs (t - p) u (by omega))
  have t2 : max (p + e) 1 = p + e := by omega
  rw [t2] at MM1
  have AB2 := Lib.hid (fun u => ssabs (p + e - p) u (by omega))
  rw [show p + e - p = e by omega] at AB2
  have a1n : (if t - p < 0 then -(t - p) else t - p) ≤ n := by omega
  have a2n : (if e < 0 then -e else e) ≤ n := by omega
  generalize (if t - p < 0 then -(t - p) else t - p) = x1 at *
  generalize (if e < 0 then -e else e) = x2 at *
  have ww1 : IntKind.i64.wrap (t - p) = t - p := by rw [IntKind.wrap_i64]; omega
  have ww2 : IntKind.i64.wrap (p + e - p) = e := by rw [IntKind.wrap_i64]; omega
  have ww3 : IntKind.i64.wrap (max (q + p - t) 0 + t) = max (q + p - t) 0 + t := by rw [IntKind.wrap_i64]; omega
  have ww4 : IntKind.i64.wrap (q + p) = q + p := by rw [IntKind.wrap_i64]; omega
  have ww5 : IntKind.i64.wrap (max (q + p - (p + e)) 0 + (p + e)) = max (q + p - (p + e)) 0 + (p + e) := by rw [IntKind.wrap_i64]; omega
  have hsum : q < n ∨ (n ≤ q ∧ max (q + p - t) 0 + t = q + p ∧ max (q + p - (p + e)) 0 + (p + e) = q + p) := by omega
  replace hsum := Lib.hid hsum
  generalize max (q + p - (p + e)) 0 = i2 at *
  generalize max (q + p - t) 0 = i1 at *
  replace WO1 := Lib.hid WO1
  replace II1 := Lib.hid II1
  replace MM1 := Lib.hid MM1
  have FL := Lib.hid (fun u => sscflatq 0 u)
  clear hs hr nr e1 w8 w0 t2 q1 q2 p1 p2
  go_wp2_with fail
  refine (RS1.out _ hb1).mono ?_
  rintro e w2 ⟨rfl, hb2⟩
  have hb2 := hb1.trans (hb2.mono (by have := hb1.size; have := hz.out; omega))
  clear hb1
  obtain ⟨k0, k1, k2, k3, k4, k5, k6⟩ := hcs.out _ hb2
  go_wp2_with fail
  refine region_tree (fun u => u.cell? ⟨w.heap.size, 0, none⟩ = some (.slice a1 X.length e1) ∧ u.cell? ⟨w.heap.size, 1, none⟩ = some (.slice a2 Y.length e2) ∧ u.cell? ⟨w.heap.size, 2, none⟩ = some (.slice a3 Z.length e3) ∧ u.cell? ⟨w.heap.size, 3, none⟩ = some (.int .i64 r) ∧ u.cell? ⟨w.heap.size + 1, 0, none⟩ = some (.int .i64 q) ∧ u.cell? ⟨w.heap.size + 1, 1, none⟩ = some (.int .i64 p) ∧ u.cell? ⟨w.heap.size + 1, 2, none⟩ = some (.int .i64 al)) [(5, [(4, 5), (3, 5), (0, 5), (1, 5), (2, 5)])] (.free 1 (.take 2 (.fork 0 (.free 3 (.step 4 (.late 5 .fin))) 4 (.step 0 (.free 3 (.late 5 .fin)))))) (by kernel_rfl) (by kernel_rfl) (by kernel_rfl) (by kernel_rfl) (by decide) (fun _ _ _ _ _ h => h) ?_
  first
    | (refine mt_free _ rfl ?_ (Or.inl ⟨by rfl, ?_⟩) (⟨k0, k1, k2, k3, k4, k5, k6⟩) ?_
       rotate_left 1
       · intro u
         go_simp
         try with_reducible rfl
       simp only [Act.put, List.setIfInBounds_toArray, List.set_cons_zero, List.set_cons_succ])
    | (refine mt_free _ rfl _ (Or.inr ⟨by rfl, rfl⟩) (⟨k0, k1, k2, k3, k4, k5, k6⟩) ?_
       simp only [Act.put, List.setIfInBounds_toArray, List.set_cons_zero, List.set_cons_succ])
  first
    | (refine mt_take _ rfl ?_ (Or.inl ⟨by rfl, ?_⟩) (⟨k0, k1, k2, k3, k4, k5, k6⟩) ?_
       rotate_left 1
       · intro u hu
         (try dsimp only at hu)
         go_simp
         try with_reducible rfl
       simp only [Act.put, List.setIfInBounds_toArray, List.set_cons_zero, List.set_cons_succ])
    | (refine mt_take _ rfl _ (Or.inr ⟨by rfl, rfl⟩) (⟨k0, k1, k2, k3, k4, k5, k6⟩) ?_
       simp only [Act.put, List.setIfInBounds_toArray, List.set_cons_zero, List.set_cons_succ])
  refine mt_fork _ _ rfl rfl ?_ ?_
  · intro K hK
    go_simp
    refine (FL.out _).mono ?_
    rintro e w3 ⟨g1, g2, g3, g4, g5, rfl, hF, hb3⟩
    have hq3 : w2.heap.size ≤ w3.heap.size := hb3.size
    have hb3 := hb2.drew.trans (hb3.mono (by have := hb2.size; have := hz.out; show _ ≤ w2.heap.size; omega))
    obtain ⟨k0, k1, k2, k3, k4, k5, k6⟩ := hcs.out _ hb3
    replace hF := Lib.hid hF
    go_wp2_with fail
    refine hK.out _ _ _ (fun u hu => hu) (⟨k0, k1, k2, k3, k4, k5, k6⟩) ?_
    clear hK K
    have hF3 := hF
    first
      | (refine mt_free _ rfl ?_ (Or.inl ⟨by rfl, ?_⟩) (⟨k0, k1, k2, k3, k4, k5, k6⟩) ?_
         rotate_left 1
         · intro u
           go_simp
           try with_reducible rfl
         simp only [Act.put, List.setIfInBounds_toArray, List.set_cons_zero, List.set_cons_succ])
      | (refine mt_free _ rfl _ (Or.inr ⟨by rfl, rfl⟩) (⟨k0, k1, k2, k3, k4, k5, k6⟩) ?_
         simp only [Act.put, List.setIfInBounds_toArray, List.set_cons_zero, List.set_cons_succ])
    refine mt_step _ rfl ?_
    intro K hK
    go_simp
    obtain ⟨w4, eA, hbA, hN, hzA⟩ := co_alloc w3
    rw [← eA]
    obtain ⟨s, es⟩ : ∃ s, s = w3.heap.size := ⟨_, rfl⟩
    rw [← es] at hN ⊢
    replace es := Lib.hid es
    replace eA := Lib.hid eA
    have hF := Lib.hid (hF.out.keep hbA)
    have hb4 := hb3.trans (hbA.mono (by have := hb3.size; have := hz.out; omega))
    obtain ⟨k0, k1, k2, k3, k4, k5, k6⟩ := hcs.out _ hb4
    refine hK.out _ _ _ (fun u hu => hu) (⟨k0, k1, k2, k3, k4, k5, k6⟩) ?_
    clear hK K
    have hN9 := Lib.hid hN
    refine mt_late _ rfl ?_
    intro K hK
    obtain ⟨q0, q1, q2, q3, p0, p1, p2, p3, _⟩ := hN
    go_simp
    refine hK.out (fun _ => True) _ _ ?_
    clear hK K
    refine mt_fin ?_
    clear q0 q1 q2 q3 p0 p1 p2 p3 k0 k1 k2 k3 k4 k5 k6
    have es := es.out
    have hzz := hz.out
    have u2 := hb2.size
    have u3 := hq3
    obtain ⟨w9, e9, hZ, hz9, gr9⟩ := hN9.out.laid g1 g2 g3 r
    rw [← e9]
    have hb9 := hb4.grown gr9 (by omega) (fun k e => by injection e with e; omega)
    have hF9 := hF.out.aside gr9 (by have a1 := hF3.out.b1.2; have a2 := hF3.out.b2.2; have a3 := hF3.out.b3.2; have a4 := hF3.out.b4.2; have a5 := hF3.out.b5.2; exact .inr ⟨by omega, by omega, by omega, by omega, by omega⟩)
    have hs9 : s < w9.heap.size := by rw [hz9]; exact hN9.out.lt
    replace hF := 0
    replace hN9 := 0
    replace e9 := 0
    replace gr9 := 0
    replace es := 0
    replace hzz := 0
    replace hz9 := 0
    clear hF hN9 e9 gr9 es hzz hz9
    obtain ⟨k0, k1, k2, k3, k4, k5, k6⟩ := hcs.out _ hb9
    obtain ⟨z0, z1, z2, z3⟩ := hZ
    have x1 := Lib.hid hF9.x
    have x2 := Lib.hid hF9.y
    have x3 := Lib.hid hF9.grid
    clear hF9
    replace hs9 := Lib.hid hs9
    go_wp2_with fail
    refine (IZ.out _ _ _ _ _ _ x1.out x2.out x3.out).mono ?_
    rintro e w10 ⟨rfl, hb10⟩
    have hb10 := hb9.trans (hb10.mono (by have := hb9.size; have := hz.out; omega))
    clear hb9
    obtain ⟨k0, k1, k2, k3, k4, k5, k6⟩ := hcs.out _ hb10
    clear z0 z1 z2 z3 x1 x2 x3
    go_wp2_with fail
    refine (WO1.out _ hb10).mono ?_
    rintro e w11 ⟨rfl, hb11⟩
    have hb11 := hb10.trans (hb11.mono (by have := hb10.size; have := hz.out; omega))
    clear hb10
    obtain ⟨k0, k1, k2, k3, k4, k5, k6⟩ := hcs.out _ hb11
    go_wp2_with fail
    refine (II1.out _ hb11).mono ?_
    rintro e w12 ⟨rfl, hb12⟩
    have hb12 := hb11.trans (hb12.mono (by have := hb11.size; have := hz.out; omega))
    clear hb11
    obtain ⟨k0, k1, k2, k3, k4, k5, k6⟩ := hcs.out _ hb12
    go_wp2_with fail
    refine (MM1.out _ hb12).mono ?_
    rintro e w13 ⟨rfl, hb13⟩
    have hb13 := hb12.trans (hb13.mono (by have := hb12.size; have := hz.out; omega))
    clear hb12
    obtain ⟨k0, k1, k2, k3, k4, k5, k6⟩ := hcs.out _ hb13
    go_wp2_with fail
    refine (AB1.out _).mono ?_
    rintro e w30 ⟨rfl, rfl⟩
    go_wp2_with fail
    refine (AB2.out _).mono ?_
    rintro e w30 ⟨rfl, rfl⟩
    rcases hsum.out with g | ⟨g, g2', g3'⟩
    · go_wp2_with fail
      refine (LV.out _).mono ?_
      rintro e w20 ⟨rfl, hb20⟩
      have hb20 := hb13.trans (hb20.mono (by have := hb13.size; have := hz.out; omega))
      go_wp2
      go_ret
      exact ⟨rfl, hb0.out.trans (hb20.mono (by omega))⟩
    · go_wp2_with fail
      refine (LV.out _).mono ?_
      rintro e w20 ⟨rfl, hb20⟩
      have hb20 := hb13.trans (hb20.mono (by have := hb13.size; have := hz.out; omega))
      go_wp2
      go_ret
      exact ⟨rfl, hb0.out.trans (hb20.mono (by omega))⟩
  · intro K hK
    go_simp
    obtain ⟨w4, eA, hbA, hN, hzA⟩ := co_alloc w2
    rw [← eA]
    obtain ⟨s, es⟩ : ∃ s, s = w2.heap.size := ⟨_, rfl⟩
    rw [← es] at hN ⊢
    replace es := Lib.hid es
    replace eA := Lib.hid eA
    have hb4 := hb2.trans (hbA.mono (by have := hb2.size; have := hz.out; omega))
    obtain ⟨k0, k1, k2, k3, k4, k5, k6⟩ := hcs.out _ hb4
    refine hK.out _ _ _ (fun u hu => hu) (⟨k0, k1, k2, k3, k4, k5, k6⟩) ?_
    clear hK K
    refine mt_step _ rfl ?_
    intro K hK
    go_simp
    refine (FL.out _).mono ?_
    rintro e w5 ⟨g1, g2, g3, g4, g5, rfl, hF, hb5⟩
    have hq5 : w4.heap.size ≤ w5.heap.size := hb5.size
    have hN := hN.drew.keep hb5
    have hb5 := hb4.drew.trans (hb5.mono (by have := hb4.size; have := hz.out; show _ ≤ w4.heap.size; omega))
    obtain ⟨k0, k1, k2, k3, k4, k5, k6⟩ := hcs.out _ hb5
    replace hF := Lib.hid hF
    go_wp2_with fail
    refine hK.out _ _ _ (fun u hu => hu) (⟨k0, k1, k2, k3, k4, k5, k6⟩) ?_
    clear hK K
    first
      | (refine mt_free _ rfl ?_ (Or.inl ⟨by rfl, ?_⟩) (⟨k0, k1, k2, k3, k4, k5, k6⟩) ?_
         rotate_left 1
         · intro u
           go_simp
           try with_reducible rfl
         simp only [Act.put, List.setIfInBounds_toArray, List.set_cons_zero, List.set_cons_succ])
      | (refine mt_free _ rfl _ (Or.inr ⟨by rfl, rfl⟩) (⟨k0, k1, k2, k3, k4, k5, k6⟩) ?_
         simp only [Act.put, List.setIfInBounds_toArray, List.set_cons_zero, List.set_cons_succ])
    have hN9 := Lib.hid hN
    refine mt_late _ rfl ?_
    intro K hK
    obtain ⟨q0, q1, q2, q3, p0, p1, p2, p3, _⟩ := hN
    go_simp
    refine hK.out (fun _ => True) _ _ ?_
    clear hK K
    refine mt_fin ?_
    clear q0 q1 q2 q3 p0 p1 p2 p3 k0 k1 k2 k3 k4 k5 k6
    have es := es.out
    have hzz := hz.out
    have u2 := hb2.size
    have u4 := hzA
    obtain ⟨w9, e9, hZ, hz9, gr9⟩ := hN9.out.laid g1 g2 g3 r
    rw [← e9]
    have hb9 := hb5.grown gr9 (by omega) (fun k e => by injection e with e; omega)
    have hF9 := hF.out.aside gr9 (.inl (by show s < w4.heap.size; omega))
    have hs9 : s < w9.heap.size := by rw [hz9]; exact hN9.out.lt
    replace hF := 0
    replace hN9 := 0
    replace e9 := 0
    replace gr9 := 0
    replace es := 0
    replace hzz := 0
    replace hz9 := 0
    clear hF hN9 e9 gr9 es hzz hz9
    obtain ⟨k0, k1, k2, k3, k4, k5, k6⟩ := hcs.out _ hb9
    obtain ⟨z0, z1, z2, z3⟩ := hZ
    have x1 := Lib.hid hF9.x
    have x2 := Lib.hid hF9.y
    have x3 := Lib.hid hF9.grid
    clear hF9
    replace hs9 := Lib.hid hs9
    go_wp2_with fail
    refine (IZ.out _ _ _ _ _ _ x1.out x2.out x3.out).mono ?_
    rintro e w10 ⟨rfl, hb10⟩
    have hb10 := hb9.trans (hb10.mono (by have := hb9.size; have := hz.out; omega))
    clear hb9
    obtain ⟨k0, k1, k2, k3, k4, k5, k6⟩ := hcs.out _ hb10
    clear z0 z1 z2 z3 x1 x2 x3
    go_wp2_with fail
    refine (WO1.out _ hb10).mono ?_
    rintro e w11 ⟨rfl, hb11⟩
    have hb11 := hb10.trans (hb11.mono (by have := hb10.size; have := hz.out; omega))
    clear hb10
    obtain ⟨k0, k1, k2, k3, k4, k5, k6⟩ := hcs.out _ hb11
    go_wp2_with fail
    refine (II1.out _ hb11).mono ?_
    rintro e w12 ⟨rfl, hb12⟩
    have hb12 := hb11.trans (hb12.mono (by have := hb11.size; have := hz.out; omega))
    clear hb11
    obtain ⟨k0, k1, k2, k3, k4, k5, k6⟩ := hcs.out _ hb12
    go_wp2_with fail
    refine (MM1.out _ hb12).mono ?_
    rintro e w13 ⟨rfl, hb13⟩
    have hb13 := hb12.trans (hb13.mono (by have := hb12.size; have := hz.out; omega))
    clear hb12
    obtain ⟨k0, k1, k2, k3, k4, k5, k6⟩ := hcs.out _ hb13
    go_wp2_with fail
    refine (AB1.out _).mono ?_
    rintro e w30 ⟨rfl, rfl⟩
    go_wp2_with fail
    refine (AB2.out _).mono ?_
    rintro e w30 ⟨rfl, rfl⟩
    rcases hsum.out with g | ⟨g, g2', g3'⟩
    · go_wp2_with fail
      refine (LV.out _).mono ?_
      rintro e w20 ⟨rfl, hb20⟩
      have hb20 := hb13.trans (hb20.mono (by have := hb13.size; have := hz.out; omega))
      go_wp2
      go_ret
      exact ⟨rfl, hb0.out.trans (hb20.mono (by omega))⟩
    · go_wp2_with fail
      refine (LV.out _).mono ?_
      rintro e w20 ⟨rfl, hb20⟩
      have hb20 := hb13.trans (hb20.mono (by have := hb13.size; have := hz.out; omega))
      go_wp2
      go_ret
      exact ⟨rfl, hb0.out.trans (hb20.mono (by omega))⟩
end Go.Proofs.Ytnfbfggkbpobiaa
