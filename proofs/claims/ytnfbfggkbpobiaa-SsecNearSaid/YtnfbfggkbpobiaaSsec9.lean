/- The document's pressures; the chapter's example; walked. -/
import Derived.Test.YtnfbfggkbpobiaaSsec8
import Derived.Test.YtnfbfggkbpobiaaClip09
import Derived.Deep.Cut
namespace Go.Proofs.Ytnfbfggkbpobiaa
open Go.ChangeShapes Go.WideShapes Go.ChangeAt Go.RowKit
set_option linter.unusedVariables false
set_option linter.unusedSimpArgs false
set_option maxRecDepth 100000 in
set_option maxHeartbeats 8000000 in
theorem ssabs (n : Int) (w : World) (h : -4611686018427387904 ≤ n) : Calls Try.prog 33 #[.int .i64 n] w fun e w' => e = .returned (.int .i64 (if n < 0 then -n else n)) ∧ w = w' := by
  have hw : n < 0 → IntKind.i64.wrap (-n) = -n := fun h1 => IntWalk.i64_in _ ⟨by omega, by omega⟩
  rcases (show n < 0 ∨ 0 ≤ n by omega) with h1 | h1
  · have hw := hw h1
    rw [if_pos h1]
    go_enter Try.func33, Try.ntmps33
    go_wp2
    go_ret
    exact ⟨rfl, rfl⟩
  · clear hw
    rw [if_neg (by omega)]
    go_enter Try.func33, Try.ntmps33
    go_wp2
    go_ret
    exact ⟨rfl, rfl⟩
set_option maxRecDepth 100000 in
set_option maxHeartbeats 8000000 in
theorem ssmost (a b : Int) (w : World) : Calls Try.prog 65 #[.int .i64 a, .int .i64 b] w fun e w' => e = .returned (.int .i64 (max a b)) ∧ w = w' := by
  rcases (show b < a ∨ a ≤ b by omega) with h1 | h1
  · rw [show max a b = a by omega]
    go_enter Try.func65, Try.ntmps65
    go_wp2
    go_ret
    exact ⟨rfl, rfl⟩
  · rw [show max a b = b by omega]
    go_enter Try.func65, Try.ntmps65
    go_wp2
    go_ret
    exact ⟨rfl, rfl⟩
theorem ss9_box (w : World) (a1 a2 a3 : Option Addr) (e1 e2 e3 : Nat) (X Y : List Int) (Z : List (List Int)) : ∃ V, V = (w.alloc (.cells #[.slice a1 X.length e1, .slice a2 Y.length e2, .slice a3 Z.length e3] 25)) ∧ Below w.heap.size w V ∧ V.heap.size = w.heap.size + 1 ∧ ∀ u, Below (w.heap.size + 1) V u → u.cell? ⟨w.heap.size, 0, none⟩ = some (.slice a1 X.length e1) ∧ u.cell? ⟨w.heap.size, 1, none⟩ = some (.slice a2 Y.length e2) ∧ u.cell? ⟨w.heap.size, 2, none⟩ = some (.slice a3 Z.length e3) :=
  ⟨_, rfl, (by repeat (first | exact Below.refl _ _ | assumption | apply Below.drew | apply below_drewN | (refine Below.alloc ?_ (by first | exact Nat.le_refl _ | omega | (simp <;> omega)) _) | (refine Below.setCell ?_ (by first | exact Nat.le_refl _ | omega | (simp <;> omega)) _))), by simp, fun u hu => ⟨(bc hu (by omega)).trans (by go_simp), (bc hu (by omega)).trans (by go_simp), (bc hu (by omega)).trans (by go_simp)⟩⟩
set_option maxRecDepth 100000 in
set_option maxHeartbeats 8000000 in
theorem rat38 (a1 a2 a3 : Option Addr) (GA : Nat → Option Addr) (GC : Nat → Nat) (e1 e2 e3 : Nat) (X Y : List Int) (Z : List (List Int)) (i al t : Int) (w : World) (hx : RowIs .i64 w a1 X) (hy : RowIs .i64 w a2 Y) (hg : GridIs .i64 w a3 GA GC Z) (hX : X.length ≤ 50) (hY : Y.length ≤ 50) (hZ : Z.length ≤ 50) (hR : ∀ i, i < Z.length → (Z.getD i []).length ≤ 50) (hs : shB X Y Z = true) (hi : -4611686018427387904 ≤ i ∧ i ≤ 4611686018427387904) (ht : 1 ≤ t ∧ t ≤ 8589934592) : Calls Try.prog 66 #[.agg #[.slice a1 X.length e1, .slice a2 Y.length e2, .slice a3 Z.length e3], .int .i64 i, .int .i64 t, .int .i64 al] w fun e w' => e = .returned (.int .i64 (crF X (cuL Y Z al) (maV (max i 0) t))) ∧ Below w.heap.size w w' := by
  obtain ⟨V, eV, hb0, hz, hcs⟩ := ss9_box w a1 a2 a3 e1 e2 e3 X Y Z
  have AT := Lib.hid (fun u (h : Below (w.heap.size + 1) V u) => rat06 a1 a2 a3 GA GC e1 e2 e3 X Y Z (maV (max i 0) t) al u (hx.below (hb0.trans (h.mono (by omega)))) (hy.below (hb0.trans (h.mono (by omega)))) (hg.below (hb0.trans (h.mono (by omega)))) hX hY hZ hR hs)
  have MO := Lib.hid (fun u => ssmost i 0 u)
  have MA := Lib.hid (fun u => rat8_any (max i 0) t u (by omega) (by omega) (by omega) (by omega))
  generalize crF X (cuL Y Z al) (maV (max i 0) t) = n at *
  generalize maB (max i 0) t = mb at *
  generalize maV (max i 0) t = m at *
  generalize max i 0 = k at *
  clear hx hy hg hX hY hZ hR hs hi ht
  replace hb0 := Lib.hid hb0
  replace hz := Lib.hid hz
  replace hcs := Lib.hid hcs
  replace eV := Lib.hid eV
  go_enter Try.func66, Try.ntmps66
  go_wp2_with fail
  rw [← eV.out]
  obtain ⟨k0, k1, k2⟩ := hcs.out _ (Below.refl _ _)
  go_wp2_with fail
  refine (MO.out _).mono ?_
  rintro e w1 ⟨rfl, rfl⟩
  go_wp2_with fail
  refine (MA.out _).mono ?_
  rintro e w2 ⟨rfl, hb2⟩
  have hb2 := (Below.refl (w.heap.size + 1) V).trans (hb2.mono (Nat.le_of_eq hz.out.symm))
  obtain ⟨k0, k1, k2⟩ := hcs.out _ hb2
  go_wp2_with fail
  refine (AT.out _ hb2).mono ?_
  rintro e w3 ⟨rfl, hb3⟩
  have hb3 := hb2.trans (hb3.mono (by have := hb2.size; have := hz.out; omega))
  clear hb2
  obtain ⟨k0, k1, k2⟩ := hcs.out _ hb3
  go_wp2
  go_ret
  exact ⟨rfl, hb0.out.trans (hb3.mono (by omega))⟩
theorem ssx_box (w : World) (a1 a2 a3 : Option Addr) (e1 e2 e3 : Nat) (X Y : List Int) (Z : List (List Int)) (q p al : Int) : ∃ V, V = ((w.alloc (.cells #[.slice a1 X.length e1, .slice a2 Y.length e2, .slice a3 Z.length e3] 25)).alloc (.cells #[.int .i64 q, .int .i64 p, .int .i64 al] 55)) ∧ Below w.heap.size w V ∧ V.heap.size = w.heap.size + 2 ∧ ∀ u, Below (w.heap.size + 2) V u → u.cell? ⟨w.heap.size, 0, none⟩ = some (.slice a1 X.length e1) ∧ u.cell? ⟨w.heap.size, 1, none⟩ = some (.slice a2 Y.length e2) ∧ u.cell? ⟨w.heap.size, 2, none⟩ = some (.slice a3 Z.length e3) ∧ u.cell? ⟨w.heap.size + 1, 0, none⟩ = some (.int .i64 q) ∧ u.cell? ⟨w.heap.size + 1, 1, none⟩ = some (.int .i64 p) ∧ u.cell? ⟨w.heap.size + 1, 2, none⟩ = some (.int .i64 al) :=
  ⟨_, rfl, (by repeat (first | exact Below.refl _ _ | assumption | apply Below.drew | apply below_drewN | (refine Below.alloc ?_ (by first | exact Nat.le_refl _ | omega | (simp <;> omega)) _) | (refine Below.setCell ?_ (by first | exact Nat.le_refl _ | omega | (simp <;> omega)) _))), by simp, fun u hu => ⟨(bc hu (by omega)).trans (by go_simp), (bc hu (by omega)).trans (by go_simp), (bc hu (by omega)).trans (by go_simp), (bc hu (by omega)).trans (by go_simp), (bc hu (by omega)).trans (by go_simp), (bc hu (by omega)).trans (by go_simp)⟩⟩
set_option maxRecDepth 100000 in
set_option maxHeartbeats 8000000 in
theorem rimp38 (a1 a2 a3 : Option Addr) (GA : Nat → Option Addr) (GC : Nat → Nat) (e1 e2 e3 : Nat) (X Y : List Int) (Z : List (List Int)) (r q p al : Int) (w : World) (hx : RowIs .i64 w a1 X) (hy : RowIs .i64 w a2 Y) (hg : GridIs .i64 w a3 GA GC Z) (hX : X.length ≤ 50) (hY : Y.length ≤ 50) (hZ : Z.length ≤ 50) (hR : ∀ i, i < Z.length → (Z.getD i []).length ≤ 50) (hs : scB r X Y Z = true) : Calls Try.prog 36 #[.agg #[.slice a1 X.length e1, .slice a2 Y.length e2, .slice a3 Z.length e3], .int .i64 r, .agg #[.int .i64 q, .int .i64 p, .int .i64 al]] w fun e w' => e = .returned (.tuple #[.int .i64 (max (clQ q + clP p - stF X Y Z (clQ q) (clP p) al r.toNat) 0), .int .i64 (stF X Y Z (clQ q) (clP p) al r.toNat)]) ∧ Below w.heap.size w w' := by
  obtain ⟨V, eV, hb0, hz, hcs⟩ := ssx_box w a1 a2 a3 e1 e2 e3 X Y Z q p al
  have C1 := fun u => c09_any q 0 4294967296 (by omega) u
  have C2 := fun u => c09_any p 1 4294967296 (by omega) u
  rw [clQ_eq] at C1
  rw [clP_eq] at C2
  replace C1 := Lib.hid C1
  replace C2 := Lib.hid C2
  have hQ := clQ_bd q
  have hP := clP_bd p
  have ER := Lib.hid (fun (j : Nat) u (h : Below (w.heap.size + 2) V u) => show Calls Try.prog 66 #[.agg #[.slice a1 X.length e1, .slice a2 Y.length e2, .slice a3 Z.length e3], .int .i64 (clQ q + clP p - stF X Y Z (clQ q) (clP p) al j), .int .i64 (stF X Y Z (clQ q) (clP p) al j), .int .i64 al] u fun e w' => e = .returned (.int .i64 (erF X Y Z (clQ q) (clP p) al (stF X Y Z (clQ q) (clP p) al j))) ∧ Below u.heap.size u w' from rat38 a1 a2 a3 GA GC e1 e2 e3 X Y Z (clQ q + clP p - stF X Y Z (clQ q) (clP p) al j) al (stF X Y Z (clQ q) (clP p) al j) u (hx.below (hb0.trans (h.mono (by omega)))) (hy.below (hb0.trans (h.mono (by omega)))) (hg.below (hb0.trans (h.mono (by omega)))) hX hY hZ hR (scB_sh hs) (by have := stF_bd hs (clQ q) al hP j; omega) (by have := stF_bd hs (clQ q) al hP j; omega))
  have BD := Lib.hid (fun (j : Nat) => erF_bd hs (clQ q) (clP p) al (stF X Y Z (clQ q) (clP p) al j))
  have SB := Lib.hid (fun (j : Nat) => stF_bd hs (clQ q) al hP j)
  have hr := scB_ws hs
  have NR := Lib.hid (show (1 : Int) ≤ r ∧ r ≤ 8 from ⟨hr.1, hr.2.1⟩)
  generalize clQ q = Q at *
  generalize clP p = P at *
  have MO := Lib.hid (fun a b u => ssmost a b u)
  have PB := Lib.hid (show 0 ≤ Q ∧ Q ≤ 4294967296 ∧ 1 ≤ P ∧ P ≤ 4294967296 from ⟨hQ.1, hQ.2, hP.1, hP.2⟩)
  clear hx hy hg hX hY hZ hR hs hQ hP hr
  replace hb0 := Lib.hid hb0
  replace hz := Lib.hid hz
  replace hcs := Lib.hid hcs
  replace eV := Lib.hid eV
  go_enter Try.func36, Try.ntmps36
  go_wp2_with fail
  rw [← eV.out]
  obtain ⟨k0, k1, k2, k3, k4, k5⟩ := hcs.out _ (Below.refl _ _)
  go_wp2_with fail
  refine region_moves (fun u => u.cell? ⟨w.heap.size, 0, none⟩ = some (.slice a1 X.length e1) ∧ u.cell? ⟨w.heap.size, 1, none⟩ = some (.slice a2 Y.length e2) ∧ u.cell? ⟨w.heap.size, 2, none⟩ = some (.slice a3 Z.length e3) ∧ u.cell? ⟨w.heap.size + 1, 0, none⟩ = some (.int .i64 q) ∧ u.cell? ⟨w.heap.size + 1, 1, none⟩ = some (.int .i64 p) ∧ u.cell? ⟨w.heap.size + 1, 2, none⟩ = some (.int .i64 al)) [] [(.free, 0), (.take, 1), (.free, 3), (.take, 4), (.step, 2), (.step, 5), (.free, 6), (.free, 7)] _ (by kernel_rfl) (by kernel_rfl) (by kernel_rfl) (by kernel_rfl) (by decide) rfl (fun _ _ _ _ _ h => h) ?_
  simp only [List.filterMap_cons, List.filterMap_nil, List.getElem?_toArray, List.getElem?_cons_zero, List.getElem?_cons_succ, Option.map_some]
  iterate 1
    first
      | (refine mv_free ?_ (Or.inl ⟨by rfl, ?_⟩) (⟨k0, k1, k2, k3, k4, k5⟩) ?_
         rotate_left 1
         · intro u
           go_simp
           try simp only [d1]
           try simp only [d2]
           try simp only [d3]
           try with_reducible rfl
         simp only [Act.put, List.setIfInBounds_toArray, List.set_cons_zero, List.set_cons_succ])
      | (refine mv_free _ (Or.inr ⟨by rfl, rfl⟩) (⟨k0, k1, k2, k3, k4, k5⟩) ?_
         simp only [Act.put, List.setIfInBounds_toArray, List.set_cons_zero, List.set_cons_succ])
  iterate 1
    first
      | (refine mv_take ?_ (Or.inl ⟨by rfl, ?_⟩) (⟨k0, k1, k2, k3, k4, k5⟩) ?_
         rotate_left 1
         · intro u hu
           (try dsimp only at hu)
           go_simp
           try with_reducible rfl
         simp only [Act.put, List.setIfInBounds_toArray, List.set_cons_zero, List.set_cons_succ])
      | (refine mv_take _ (Or.inr ⟨by rfl, rfl⟩) (⟨k0, k1, k2, k3, k4, k5⟩) ?_
         simp only [Act.put, List.setIfInBounds_toArray, List.set_cons_zero, List.set_cons_succ])
  iterate 1
    first
      | (refine mv_free ?_ (Or.inl ⟨by rfl, ?_⟩) (⟨k0, k1, k2, k3, k4, k5⟩) ?_
         rotate_left 1
         · intro u
           go_simp
           try simp only [d1]
           try simp only [d2]
           try simp only [d3]
           try with_reducible rfl
         simp only [Act.put, List.setIfInBounds_toArray, List.set_cons_zero, List.set_cons_succ])
      | (refine mv_free _ (Or.inr ⟨by rfl, rfl⟩) (⟨k0, k1, k2, k3, k4, k5⟩) ?_
         simp only [Act.put, List.setIfInBounds_toArray, List.set_cons_zero, List.set_cons_succ])
  iterate 1
    first
      | (refine mv_take ?_ (Or.inl ⟨by rfl, ?_⟩) (⟨k0, k1, k2, k3, k4, k5⟩) ?_
         rotate_left 1
         · intro u hu
           (try dsimp only at hu)
           go_simp
           try with_reducible rfl
         simp only [Act.put, List.setIfInBounds_toArray, List.set_cons_zero, List.set_cons_succ])
      | (refine mv_take _ (Or.inr ⟨by rfl, rfl⟩) (⟨k0, k1, k2, k3, k4, k5⟩) ?_
         simp only [Act.put, List.setIfInBounds_toArray, List.set_cons_zero, List.set_cons_succ])
  refine mv_step (fun K hK => ?_)
  go_simp
  refine (C1.out _).mono ?_
  rintro e w1 ⟨rfl, rfl⟩
  go_wp2_with fail
  refine hK.out _ _ _ (fun u hu => hu) (⟨k0, k1, k2, k3, k4, k5⟩) ?_
  clear hK K
  refine mv_step (fun K hK => ?_)
  go_simp
  refine (C2.out _).mono ?_
  rintro e w2 ⟨rfl, rfl⟩
  go_wp2_with fail
  refine hK.out _ _ _ (fun u hu => hu) (⟨k0, k1, k2, k3, k4, k5⟩) ?_
  clear hK K
  iterate 2
    first
      | (refine mv_free ?_ (Or.inl ⟨by rfl, ?_⟩) (⟨k0, k1, k2, k3, k4, k5⟩) ?_
         rotate_left 1
         · intro u
           go_simp
           try simp only [d1]
           try simp only [d2]
           try simp only [d3]
           try with_reducible rfl
         simp only [Act.put, List.setIfInBounds_toArray, List.set_cons_zero, List.set_cons_succ])
      | (refine mv_free _ (Or.inr ⟨by rfl, rfl⟩) (⟨k0, k1, k2, k3, k4, k5⟩) ?_
         simp only [Act.put, List.setIfInBounds_toArray, List.set_cons_zero, List.set_cons_succ])
  refine mv_done ?_
  go_wp2_with fail
  go_loopw [10, 11] (fun t i v => ∃ j : Nat, (j : Int) ≤ r ∧ t = .int .i64 (stF X Y Z Q P al j) ∧ i = .int .i64 (j : Int) ∧ Below (w.heap.size + 2) V v) (fun _ i _ => r.toNat - (intOf i).toNat)
  case atStart => exact ⟨0, by have := NR.out; omega, rfl, rfl, by first | exact (Below.refl _ _).drew | exact Below.refl _ _⟩
  case round =>
    clear k0 k1 k2 k3 k4 k5
    obtain ⟨j, hj, rfl, rfl, hb⟩ := hrel
    obtain ⟨k0, k1, k2, k3, k4, k5⟩ := hcs.out _ hb
    have E9 := ER.out j
    have bd := BD.out j
    have sb := SB.out j
    have SN := Lib.hid (show stF X Y Z Q P al (j + 1) = max (P - erF X Y Z Q P al (stF X Y Z Q P al j)) 1 from rfl)
    generalize erF X Y Z Q P al (stF X Y Z Q P al j) = n at *
    obtain ⟨t, ht⟩ : ∃ t, t = stF X Y Z Q P al j := ⟨_, rfl⟩
    rw [← ht] at E9 sb ⊢
    replace ht := Lib.hid ht
    have w1 : IntKind.i64.wrap (P - n) = P - n := by have := PB.out; rw [IntKind.wrap_i64]; omega
    have w2 : IntKind.i64.wrap (Q + P) = Q + P := by have := PB.out; rw [IntKind.wrap_i64]; omega
    have w3 : IntKind.i64.wrap (Q + P - t) = Q + P - t := by have := PB.out; rw [IntKind.wrap_i64]; omega
    replace E9 := Lib.hid E9
    clear bd sb
    have hr8 : r ≤ 8 := NR.out.2
    by_cases hlt : (j : Int) < r
    · have l0 : 0 ≤ (j : Int) := by omega
      go_wp2_with fail
      refine (E9.out _ hb).mono ?_
      rintro e w3 ⟨rfl, hb3⟩
      have hb3 := hb.trans (hb3.mono (by have := hb.size; have := hz.out; omega))
      clear hb
      obtain ⟨k0, k1, k2, k3, k4, k5⟩ := hcs.out _ hb3
      go_wp2_with fail
      refine (MO.out _ _ _).mono ?_
      rintro e w4 ⟨rfl, rfl⟩
      go_wp2
      go_roundw
      case rel => exact ⟨j + 1, by omega, by rw [SN.out], by go_num, hb3⟩
      case measure => simp [intOf]; omega
    · have hge : r ≤ (j : Int) := by omega
      obtain rfl : j = r.toNat := by omega
      have hb9 := Lib.hid (hb0.out.trans (hb.mono (by omega)))
      clear hge hj
      have hge : r ≤ (r.toNat : Int) := by omega
      go_wp2_with fail
      refine (MO.out _ _ _).mono ?_
      rintro e w4 ⟨rfl, rfl⟩
      go_wp2
      go_ret2
      have ht := ht.out
      subst ht
      exact ⟨rfl, hb9.out⟩
set_option maxRecDepth 100000 in
set_option maxHeartbeats 8000000 in
theorem rmea38 (a1 a2 a3 : Option Addr) (GA : Nat → Option Addr) (GC : Nat → Nat) (e1 e2 e3 : Nat) (X Y : List Int) (Z : List (List Int)) (r q p al : Int) (w : World) (hx : RowIs .i64 w a1 X) (hy : RowIs .i64 w a2 Y) (hg : GridIs .i64 w a3 GA GC Z) (hX : X.length ≤ 50) (hY : Y.length ≤ 50) (hZ : Z.length ≤ 50) (hR : ∀ i, i < Z.length → (Z.getD i []).length ≤ 50) (hs : scB r X Y Z = true) : Calls Try.prog 38 #[.agg #[.slice a1 X.length e1, .slice a2 Y.length e2, .slice a3 Z.length e3], .agg #[.int .i64 q, .int .i64 p, .int .i64 al]] w fun e w' => e = .returned (.tuple #[.int .i64 (max (clQ q + clP p - max (clP p + erF X Y Z (clQ q) (clP p) al (clP p)) 1) 0), .int .i64 (max (clP p + erF X Y Z (clQ q) (clP p) al (clP p)) 1)]) ∧ Below w.heap.size w w' := by
  obtain ⟨V, eV, hb0, hz, hcs⟩ := ssx_box w a1 a2 a3 e1 e2 e3 X Y Z q p al
  have C1 := fun u => c09_any q 0 4294967296 (by omega) u
  have C2 := fun u => c09_any p 1 4294967296 (by omega) u
  rw [clQ_eq] at C1
  rw [clP_eq] at C2
  replace C1 := Lib.hid C1
  replace C2 := Lib.hid C2
  have hQ := clQ_bd q
  have hP := clP_bd p
  have ER := Lib.hid (fun u (h : Below (w.heap.size + 2) V u) => show Calls Try.prog 66 #[.agg #[.slice a1 X.length e1, .slice a2 Y.length e2, .slice a3 Z.length e3], .int .i64 (clQ q), .int .i64 (clP p), .int .i64 al] u fun e w' => e = .returned (.int .i64 (erF X Y Z (clQ q) (clP p) al (clP p))) ∧ Below u.heap.size u w' from by
    have := rat38 a1 a2 a3 GA GC e1 e2 e3 X Y Z (clQ q) al (clP p) u (hx.below (hb0.trans (h.mono (by omega)))) (hy.below (hb0.trans (h.mono (by omega)))) (hg.below (hb0.trans (h.mono (by omega)))) hX hY hZ hR (scB_sh hs) (by omega) (by omega)
    unfold erF
    rw [show clQ q + clP p - clP p = clQ q by omega]
    exact this)
  have bd := erF_bd hs (clQ q) (clP p) al (clP p)
  generalize erF X Y Z (clQ q) (clP p) al (clP p) = n at *
  generalize clQ q = Q at *
  generalize clP p = P at *
  have MO := Lib.hid (fun a b u => ssmost a b u)
  have w1 : IntKind.i64.wrap (P + n) = P + n := by rw [IntKind.wrap_i64]; omega
  have w2 : IntKind.i64.wrap (Q + P) = Q + P := by rw [IntKind.wrap_i64]; omega
  have w3 : IntKind.i64.wrap (Q + P - max (P + n) 1) = Q + P - max (P + n) 1 := by rw [IntKind.wrap_i64]; omega
  clear hx hy hg hX hY hZ hR hs hQ hP bd
  generalize ht : max (P + n) 1 = t at *
  replace ht := Lib.hid ht
  replace hb0 := Lib.hid hb0
  replace hz := Lib.hid hz
  replace hcs := Lib.hid hcs
  replace eV := Lib.hid eV
  go_enter Try.func38, Try.ntmps38
  go_wp2_with fail
  rw [← eV.out]
  obtain ⟨k0, k1, k2, k3, k4, k5⟩ := hcs.out _ (Below.refl _ _)
  go_wp2_with fail
  refine region_moves (fun u => u.cell? ⟨w.heap.size, 0, none⟩ = some (.slice a1 X.length e1) ∧ u.cell? ⟨w.heap.size, 1, none⟩ = some (.slice a2 Y.length e2) ∧ u.cell? ⟨w.heap.size, 2, none⟩ = some (.slice a3 Z.length e3) ∧ u.cell? ⟨w.heap.size + 1, 0, none⟩ = some (.int .i64 q) ∧ u.cell? ⟨w.heap.size + 1, 1, none⟩ = some (.int .i64 p) ∧ u.cell? ⟨w.heap.size + 1, 2, none⟩ = some (.int .i64 al)) [] [(.free, 0), (.take, 1), (.free, 3), (.take, 4), (.step, 2), (.step, 5), (.free, 6), (.free, 7)] _ (by kernel_rfl) (by kernel_rfl) (by kernel_rfl) (by kernel_rfl) (by decide) rfl (fun _ _ _ _ _ h => h) ?_
  simp only [List.filterMap_cons, List.filterMap_nil, List.getElem?_toArray, List.getElem?_cons_zero, List.getElem?_cons_succ, Option.map_some]
  iterate 1
    first
      | (refine mv_free ?_ (Or.inl ⟨by rfl, ?_⟩) (⟨k0, k1, k2, k3, k4, k5⟩) ?_
         rotate_left 1
         · intro u
           go_simp
           try simp only [d1]
           try simp only [d2]
           try simp only [d3]
           try with_reducible rfl
         simp only [Act.put, List.setIfInBounds_toArray, List.set_cons_zero, List.set_cons_succ])
      | (refine mv_free _ (Or.inr ⟨by rfl, rfl⟩) (⟨k0, k1, k2, k3, k4, k5⟩) ?_
         simp only [Act.put, List.setIfInBounds_toArray, List.set_cons_zero, List.set_cons_succ])
  iterate 1
    first
      | (refine mv_take ?_ (Or.inl ⟨by rfl, ?_⟩) (⟨k0, k1, k2, k3, k4, k5⟩) ?_
         rotate_left 1
         · intro u hu
           (try dsimp only at hu)
           go_simp
           try with_reducible rfl
         simp only [Act.put, List.setIfInBounds_toArray, List.set_cons_zero, List.set_cons_succ])
      | (refine mv_take _ (Or.inr ⟨by rfl, rfl⟩) (⟨k0, k1, k2, k3, k4, k5⟩) ?_
         simp only [Act.put, List.setIfInBounds_toArray, List.set_cons_zero, List.set_cons_succ])
  iterate 1
    first
      | (refine mv_free ?_ (Or.inl ⟨by rfl, ?_⟩) (⟨k0, k1, k2, k3, k4, k5⟩) ?_
         rotate_left 1
         · intro u
           go_simp
           try simp only [d1]
           try simp only [d2]
           try simp only [d3]
           try with_reducible rfl
         simp only [Act.put, List.setIfInBounds_toArray, List.set_cons_zero, List.set_cons_succ])
      | (refine mv_free _ (Or.inr ⟨by rfl, rfl⟩) (⟨k0, k1, k2, k3, k4, k5⟩) ?_
         simp only [Act.put, List.setIfInBounds_toArray, List.set_cons_zero, List.set_cons_succ])
  iterate 1
    first
      | (refine mv_take ?_ (Or.inl ⟨by rfl, ?_⟩) (⟨k0, k1, k2, k3, k4, k5⟩) ?_
         rotate_left 1
         · intro u hu
           (try dsimp only at hu)
           go_simp
           try with_reducible rfl
         simp only [Act.put, List.setIfInBounds_toArray, List.set_cons_zero, List.set_cons_succ])
      | (refine mv_take _ (Or.inr ⟨by rfl, rfl⟩) (⟨k0, k1, k2, k3, k4, k5⟩) ?_
         simp only [Act.put, List.setIfInBounds_toArray, List.set_cons_zero, List.set_cons_succ])
  refine mv_step (fun K hK => ?_)
  go_simp
  refine (C1.out _).mono ?_
  rintro e w1 ⟨rfl, rfl⟩
  go_wp2_with fail
  refine hK.out _ _ _ (fun u hu => hu) (⟨k0, k1, k2, k3, k4, k5⟩) ?_
  clear hK K
  refine mv_step (fun K hK => ?_)
  go_simp
  refine (C2.out _).mono ?_
  rintro e w2 ⟨rfl, rfl⟩
  go_wp2_with fail
  refine hK.out _ _ _ (fun u hu => hu) (⟨k0, k1, k2, k3, k4, k5⟩) ?_
  clear hK K
  iterate 2
    first
      | (refine mv_free ?_ (Or.inl ⟨by rfl, ?_⟩) (⟨k0, k1, k2, k3, k4, k5⟩) ?_
         rotate_left 1
         · intro u
           go_simp
           try simp only [d1]
           try simp only [d2]
           try simp only [d3]
           try with_reducible rfl
         simp only [Act.put, List.setIfInBounds_toArray, List.set_cons_zero, List.set_cons_succ])
      | (refine mv_free _ (Or.inr ⟨by rfl, rfl⟩) (⟨k0, k1, k2, k3, k4, k5⟩) ?_
         simp only [Act.put, List.setIfInBounds_toArray, List.set_cons_zero, List.set_cons_succ])
  refine mv_done ?_
  go_wp2_with fail
  refine (ER.out _ (by first | exact Below.refl _ _ | exact (Below.refl _ _).drew)).mono ?_
  rintro e w4 ⟨rfl, hb4⟩
  have hb4 := (show Below (w.heap.size + 2) V _ from by first | exact Below.refl _ _ | exact (Below.refl _ _).drew).trans (hb4.mono (by have := hz.out; first | omega | (show _ ≤ V.heap.size; omega)))
  obtain ⟨k0, k1, k2, k3, k4, k5⟩ := hcs.out _ hb4
  go_wp2_with fail
  refine (MO.out _ _ _).mono ?_
  rintro e w5 ⟨rfl, rfl⟩
  rw [ht.out]
  go_wp2_with fail
  refine (MO.out _ _ _).mono ?_
  rintro e w5 ⟨rfl, rfl⟩
  go_wp2
  go_ret2
  exact ⟨rfl, hb0.out.trans (hb4.mono (by omega))⟩

theorem lv38 : stF flX flY (flN 640) (clQ 1000) (clP 5000000) 0 (1 : Int).toNat = 4999360 := by
  show max (clP 5000000 - erF flX flY (flN 640) (clQ 1000) (clP 5000000) 0 (stF flX flY (flN 640) (clQ 1000) (clP 5000000) 0 0)) 1 = 4999360
  rw [erF_const (scB_sh fl640) (flN_all 640)]
  decide
set_option maxRecDepth 100000 in
set_option maxHeartbeats 8000000 in
theorem lives38 (w : World) : Calls Try.prog 28 #[] w fun e w' => e = .returned (.bool true) ∧ Below w.heap.size w w' := by
  have AT := fun g1 g2 g3 g4 g5 u h1 h2 h3 => sscstat (some ⟨g1, 0, none⟩) (some ⟨g2, 0, none⟩) (some ⟨g3, 0, none⟩) (two (some ⟨g4, 0, none⟩) (some ⟨g5, 0, none⟩)) (fun _ => 2) 2 2 2 flX flY (flN 640) 1 1000 5000000 0 u h1 h2 h3 (by decide) (by decide) (by decide) (by decide)
  rw [fl640, if_pos rfl, lv38] at AT
  replace AT : ∀ g1 g2 g3 g4 g5 u, RowIs .i64 u (some ⟨g1, 0, none⟩) flX → RowIs .i64 u (some ⟨g2, 0, none⟩) flY → GridIs .i64 u (some ⟨g3, 0, none⟩) (two (some ⟨g4, 0, none⟩) (some ⟨g5, 0, none⟩)) (fun _ => 2) (flN 640) → Calls Try.prog 34 #[.agg #[.slice (some ⟨g1, 0, none⟩) 2 2, .slice (some ⟨g2, 0, none⟩) 2 2, .slice (some ⟨g3, 0, none⟩) 2 2, .int .i64 1], .int .i64 1000, .int .i64 5000000, .int .i64 0] u fun e w' => e = .returned (.tuple #[.int .i64 4999360, .bool true]) ∧ Below u.heap.size u w' := AT
  replace AT := Lib.hid AT
  have FL := Lib.hid (fun u => sscflat 640 u)
  go_enter Try.func28, Try.ntmps28
  go_wp2_with fail
  refine (FL.out _).mono ?_
  rintro e w1 ⟨g1, g2, g3, g4, g5, rfl, h1, h2, h3, hb1⟩
  replace h1 := Lib.hid h1
  replace h2 := Lib.hid h2
  replace h3 := Lib.hid h3
  go_wp2_with fail
  refine (AT.out _ _ _ _ _ _ h1.out h2.out h3.out).mono ?_
  rintro e w2 ⟨rfl, hb2⟩
  have hb2 := Lib.hid (hb1.trans (hb2.mono hb1.size))
  clear hb1
  go_wp2
  go_ret
  exact ⟨rfl, hb2.out⟩
end Go.Proofs.Ytnfbfggkbpobiaa
