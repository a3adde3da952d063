/- A new turner; a point turned by a step, forth and back; clip; walked. -/
import Derived.Test.YtiibgblpbjdpaaaTurn4
import Derived.Test.YtiibgblpbjdpaaaNew
namespace Go.Proofs.Ytiibgblpbjdpaaa
open Go.ChangeShapes Go.WideShapes Go.ChangeAt Go.RowKit
set_option linter.unusedVariables false
set_option linter.unusedSimpArgs false
theorem tmul_bd {x y : Int} (h : Nm x y 2305843009213693952) {k : Nat} (hk : k < 14) : (-1630477228179456000 ≤ x * tC k ∧ x * tC k ≤ 1630477228179456000) ∧ (-1630477228179456000 ≤ y * tS k ∧ y * tS k ≤ 1630477228179456000) ∧ (-1630477228179456000 ≤ x * tS k ∧ x * tS k ≤ 1630477228179456000) ∧ (-1630477228179456000 ≤ y * tC k ∧ y * tC k ≤ 1630477228179456000) := by
  have b := tcs_bd k hk
  have q := h.bd
  exact ⟨mulT q.1 (by omega) (by omega), mulT q.2 (by omega) (by omega), mulT q.1 (by omega) (by omega), mulT q.2 (by omega) (by omega)⟩
theorem tp_box (w : World) (x y : Int) : ∃ V, V = ((w.alloc (.cells #[.int .i64 x, .int .i64 y] 88)).alloc (.cells #[.int .i64 0, .int .i64 0] 88)) ∧ Below w.heap.size w V ∧ V.heap.size = w.heap.size + 2 ∧ ∀ u, Below (w.heap.size + 2) V u → u.cell? ⟨w.heap.size, 0, none⟩ = some (.int .i64 x) ∧ u.cell? ⟨w.heap.size, 1, none⟩ = some (.int .i64 y) ∧ u.cell? ⟨w.heap.size + 1, 0, none⟩ = some (.int .i64 0) ∧ u.cell? ⟨w.heap.size + 1, 1, none⟩ = some (.int .i64 0) ∧ u.frozen? ⟨w.heap.size + 1, 0, none⟩ = false ∧ u.frozen? ⟨w.heap.size + 1, 1, none⟩ = false :=
  ⟨_, rfl, (by repeat (first | exact Below.refl _ _ | assumption | apply Below.drew | apply below_drewN | (refine Below.alloc ?_ (by first | exact Nat.le_refl _ | omega | (simp <;> omega)) _) | (refine Below.setCell ?_ (by first | exact Nat.le_refl _ | omega | (simp <;> omega)) _))), by simp, fun u hu => ⟨(bc hu (by omega)).trans (by go_simp), (bc hu (by omega)).trans (by go_simp), (bc hu (by omega)).trans (by go_simp), (bc hu (by omega)).trans (by go_simp), (hu.frozen (p := ⟨w.heap.size + 1, 0, none⟩) (by show w.heap.size + 1 < w.heap.size + 2; omega)).trans (by first | (simp; done) | go_simp), (hu.frozen (p := ⟨w.heap.size + 1, 1, none⟩) (by show w.heap.size + 1 < w.heap.size + 2; omega)).trans (by first | (simp; done) | go_simp)⟩⟩
set_option maxRecDepth 100000 in
set_option maxHeartbeats 8000000 in
theorem tforth (b k : Nat) (x y : Int) (X : List Value) (w : World) (h : TurO b 1 0 tG X w) (hk : k < 14) (hn : Nm x y 2305843009213693952) : Calls Try.prog 42 #[.pointer (some ⟨b, 0, none⟩), .agg #[.int .i64 x, .int .i64 y], .int .i64 (k : Int)] w fun e w' => e = .returned (.agg #[.int .i64 (fX k x y), .int .i64 (fY k x y)]) ∧ Below w.heap.size w w' := by
  obtain ⟨V, eV, hb0, hz, hcs⟩ := tp_box w x y
  have hT := h.bel hb0
  have n2 := (f_le hk hn).bd
  have mb := tmul_bd hn hk
  have cc := hT.cos k hk
  have cs := hT.sin k hk
  have eX := Lib.hid (show fX k x y = (x * tC k - y * tS k).tdiv 1073741824 from rfl)
  have eY := Lib.hid (show fY k x y = (x * tS k + y * tC k).tdiv 1073741824 from rfl)
  obtain ⟨A, eA⟩ : ∃ A, A = x * tC k := ⟨_, rfl⟩
  obtain ⟨B, eB⟩ : ∃ B, B = y * tS k := ⟨_, rfl⟩
  obtain ⟨C, eC⟩ : ∃ C, C = x * tS k := ⟨_, rfl⟩
  obtain ⟨D, eD⟩ : ∃ D, D = y * tC k := ⟨_, rfl⟩
  rw [← eA, ← eB, ← eC, ← eD] at mb
  have vA : IntKind.i64.wrap (x * tC k) = A := by rw [← eA, IntKind.wrap_i64]; omega
  have vB : IntKind.i64.wrap (y * tS k) = B := by rw [← eB, IntKind.wrap_i64]; omega
  have vC : IntKind.i64.wrap (x * tS k) = C := by rw [← eC, IntKind.wrap_i64]; omega
  have vD : IntKind.i64.wrap (y * tC k) = D := by rw [← eD, IntKind.wrap_i64]; omega
  have eX2 := eX.out
  have eY2 := eY.out
  rw [← eA, ← eB] at eX2
  rw [← eC, ← eD] at eY2
  generalize fX k x y = x2 at *
  generalize fY k x y = y2 at *
  have u1 : IntKind.i64.wrap (A - B) = A - B := by rw [IntKind.wrap_i64]; omega
  have u2 : IntKind.i64.wrap (C + D) = C + D := by rw [IntKind.wrap_i64]; omega
  have u3 : (A - B).tdiv 1073741824 = x2 := eX2.symm
  have u4 : (C + D).tdiv 1073741824 = y2 := eY2.symm
  have u5 : IntKind.i64.wrap x2 = x2 := by rw [IntKind.wrap_i64]; omega
  have u6 : IntKind.i64.wrap y2 = y2 := by rw [IntKind.wrap_i64]; omega
  clear eX2 eY2 eX eY mb n2
  generalize tC k = c0 at *
  generalize tS k = s0 at *
  clear eA eB eC eD hn
  have i0 : 0 ≤ (k : Int) := by omega
  have i1 : (k : Int) < 14 := by omega
  replace hT := Lib.hid hT
  clear h
  replace hb0 := Lib.hid hb0
  replace hz := Lib.hid hz
  replace hcs := Lib.hid hcs
  replace eV := Lib.hid eV
  go_enter Try.func42, Try.ntmps42
  go_wp2_with fail
  rw [← eV.out]
  obtain ⟨k0, k1, k2, k3, k4, k5⟩ := hcs.out _ (Below.refl _ _)
  go_wp2_with fail
  refine region_moves (fun u => u.cell? ⟨b, 3 + k, none⟩ = some (.int .i64 c0) ∧ u.cell? ⟨b, 17 + k, none⟩ = some (.int .i64 s0)) [] [(.free, 0), (.free, 1), (.free, 2), (.free, 3), (.free, 4), (.take, 5), (.free, 6), (.free, 7), (.free, 8), (.free, 9), (.free, 10), (.take, 11), (.free, 12), (.free, 13)] _ (by kernel_rfl) (by kernel_rfl) (by kernel_rfl) (by kernel_rfl) (by decide) rfl (fun _ _ _ _ _ h => h) ?_
  simp only [List.filterMap_cons, List.filterMap_nil, List.getElem?_toArray, List.getElem?_cons_zero, List.getElem?_cons_succ, Option.map_some]
  iterate 5
    first
      | (refine mv_free ?_ (Or.inl ⟨by rfl, ?_⟩) (⟨cc, cs⟩) ?_
         rotate_left 1
         · intro u
           go_simp
           try simp only [d1]
           try simp only [d2]
           try simp only [d3]
           try with_reducible rfl
         simp only [Act.put, List.setIfInBounds_toArray, List.set_cons_zero, List.set_cons_succ])
      | (refine mv_free _ (Or.inr ⟨by rfl, rfl⟩) (⟨cc, cs⟩) ?_
         simp only [Act.put, List.setIfInBounds_toArray, List.set_cons_zero, List.set_cons_succ])
  iterate 1
    first
      | (refine mv_take ?_ (Or.inl ⟨by rfl, ?_⟩) (⟨cc, cs⟩) ?_
         rotate_left 1
         · intro u hu
           (try dsimp only at hu)
           go_simp
           try with_reducible rfl
         simp only [Act.put, List.setIfInBounds_toArray, List.set_cons_zero, List.set_cons_succ])
      | (refine mv_take _ (Or.inr ⟨by rfl, rfl⟩) (⟨cc, cs⟩) ?_
         simp only [Act.put, List.setIfInBounds_toArray, List.set_cons_zero, List.set_cons_succ])
  iterate 5
    first
      | (refine mv_free ?_ (Or.inl ⟨by rfl, ?_⟩) (⟨cc, cs⟩) ?_
         rotate_left 1
         · intro u
           go_simp
           try simp only [d1]
           try simp only [d2]
           try simp only [d3]
           try with_reducible rfl
         simp only [Act.put, List.setIfInBounds_toArray, List.set_cons_zero, List.set_cons_succ])
      | (refine mv_free _ (Or.inr ⟨by rfl, rfl⟩) (⟨cc, cs⟩) ?_
         simp only [Act.put, List.setIfInBounds_toArray, List.set_cons_zero, List.set_cons_succ])
  iterate 1
    first
      | (refine mv_take ?_ (Or.inl ⟨by rfl, ?_⟩) (⟨cc, cs⟩) ?_
         rotate_left 1
         · intro u hu
           (try dsimp only at hu)
           go_simp
           try with_reducible rfl
         simp only [Act.put, List.setIfInBounds_toArray, List.set_cons_zero, List.set_cons_succ])
      | (refine mv_take _ (Or.inr ⟨by rfl, rfl⟩) (⟨cc, cs⟩) ?_
         simp only [Act.put, List.setIfInBounds_toArray, List.set_cons_zero, List.set_cons_succ])
  iterate 2
    first
      | (refine mv_free ?_ (Or.inl ⟨by rfl, ?_⟩) (⟨cc, cs⟩) ?_
         rotate_left 1
         · intro u
           go_simp
           try simp only [d1]
           try simp only [d2]
           try simp only [d3]
           try with_reducible rfl
         simp only [Act.put, List.setIfInBounds_toArray, List.set_cons_zero, List.set_cons_succ])
      | (refine mv_free _ (Or.inr ⟨by rfl, rfl⟩) (⟨cc, cs⟩) ?_
         simp only [Act.put, List.setIfInBounds_toArray, List.set_cons_zero, List.set_cons_succ])
  refine mv_done ?_
  go_wp2
  refine bodyPost_ret (v := .agg #[.int .i64 x2, .int .i64 y2]) (by simp [results, Try.results42, go_sem, k2, k3]) rfl ⟨rfl, ?_⟩
  exact ((hb0.out.drew.setCell (by show w.heap.size ≤ w.heap.size + 1; omega) _).setCell (by show w.heap.size ≤ w.heap.size + 1; omega) _)
set_option maxRecDepth 100000 in
set_option maxHeartbeats 8000000 in
theorem tback (b k : Nat) (x y : Int) (X : List Value) (w : World) (h : TurO b 1 0 tG X w) (hk : k < 14) (hn : Nm x y 2305843009213693952) : Calls Try.prog 44 #[.pointer (some ⟨b, 0, none⟩), .agg #[.int .i64 x, .int .i64 y], .int .i64 (k : Int)] w fun e w' => e = .returned (.agg #[.int .i64 (bX k x y), .int .i64 (bY k x y)]) ∧ Below w.heap.size w w' := by
  obtain ⟨V, eV, hb0, hz, hcs⟩ := tp_box w x y
  have hT := h.bel hb0
  have n2 := (b_le hk hn).bd
  have mb := tmul_bd hn hk
  have cc := hT.cos k hk
  have cs := hT.sin k hk
  have eX := Lib.hid (show bX k x y = (x * tC k + y * tS k).tdiv 1073741824 from rfl)
  have eY := Lib.hid (show bY k x y = (y * tC k - x * tS k).tdiv 1073741824 from rfl)
  obtain ⟨A, eA⟩ : ∃ A, A = x * tC k := ⟨_, rfl⟩
  obtain ⟨B, eB⟩ : ∃ B, B = y * tS k := ⟨_, rfl⟩
  obtain ⟨C, eC⟩ : ∃ C, C = x * tS k := ⟨_, rfl⟩
  obtain ⟨D, eD⟩ : ∃ D, D = y * tC k := ⟨_, rfl⟩
  rw [← eA, ← eB, ← eC, ← eD] at mb
  have vA : IntKind.i64.wrap (x * tC k) = A := by rw [← eA, IntKind.wrap_i64]; omega
  have vB : IntKind.i64.wrap (y * tS k) = B := by rw [← eB, IntKind.wrap_i64]; omega
  have vC : IntKind.i64.wrap (x * tS k) = C := by rw [← eC, IntKind.wrap_i64]; omega
  have vD : IntKind.i64.wrap (y * tC k) = D := by rw [← eD, IntKind.wrap_i64]; omega
  have eX2 := eX.out
  have eY2 := eY.out
  rw [← eA, ← eB] at eX2
  rw [← eD, ← eC] at eY2
  generalize bX k x y = x2 at *
  generalize bY k x y = y2 at *
  have u1 : IntKind.i64.wrap (A + B) = A + B := by rw [IntKind.wrap_i64]; omega
  have u2 : IntKind.i64.wrap (D - C) = D - C := by rw [IntKind.wrap_i64]; omega
  have u3 : (A + B).tdiv 1073741824 = x2 := eX2.symm
  have u4 : (D - C).tdiv 1073741824 = y2 := eY2.symm
  have u5 : IntKind.i64.wrap x2 = x2 := by rw [IntKind.wrap_i64]; omega
  have u6 : IntKind.i64.wrap y2 = y2 := by rw [IntKind.wrap_i64]; omega
  clear eX2 eY2 eX eY mb n2
  generalize tC k = c0 at *
  generalize tS k = s0 at *
  clear eA eB eC eD hn
  have i0 : 0 ≤ (k : Int) := by omega
  have i1 : (k : Int) < 14 := by omega
  replace hT := Lib.hid hT
  clear h
  replace hb0 := Lib.hid hb0
  replace hz := Lib.hid hz
  replace hcs := Lib.hid hcs
  replace eV := Lib.hid eV
  go_enter Try.func44, Try.ntmps44
  go_wp2_with fail
  rw [← eV.out]
  obtain ⟨k0, k1, k2, k3, k4, k5⟩ := hcs.out _ (Below.refl _ _)
  go_wp2_with fail
  refine region_moves (fun u => u.cell? ⟨b, 3 + k, none⟩ = some (.int .i64 c0) ∧ u.cell? ⟨b, 17 + k, none⟩ = some (.int .i64 s0)) [] [(.free, 0), (.free, 1), (.free, 2), (.free, 3), (.free, 4), (.take, 5), (.free, 6), (.free, 7), (.free, 8), (.free, 9), (.free, 10), (.take, 11), (.free, 12), (.free, 13)] _ (by kernel_rfl) (by kernel_rfl) (by kernel_rfl) (by kernel_rfl) (by decide) rfl (fun _ _ _ _ _ h => h) ?_
  simp only [List.filterMap_cons, List.filterMap_nil, List.getElem?_toArray, List.getElem?_cons_zero, List.getElem?_cons_succ, Option.map_some]
  iterate 5
    first
      | (refine mv_free ?_ (Or.inl ⟨by rfl, ?_⟩) (⟨cc, cs⟩) ?_
         rotate_left 1
         · intro u
           go_simp
           try simp only [d1]
           try simp only [d2]
           try simp only [d3]
           try with_reducible rfl
         simp only [Act.put, List.setIfInBounds_toArray, List.set_cons_zero, List.set_cons_succ])
      | (refine mv_free _ (Or.inr ⟨by rfl, rfl⟩) (⟨cc, cs⟩) ?_
         simp only [Act.put, List.setIfInBounds_toArray, List.set_cons_zero, List.set_cons_succ])
  iterate 1
    first
      | (refine mv_take ?_ (Or.inl ⟨by rfl, ?_⟩) (⟨cc, cs⟩) ?_
         rotate_left 1
         · intro u hu
           (try dsimp only at hu)
           go_simp
           try with_reducible rfl
         simp only [Act.put, List.setIfInBounds_toArray, List.set_cons_zero, List.set_cons_succ])
      | (refine mv_take _ (Or.inr ⟨by rfl, rfl⟩) (⟨cc, cs⟩) ?_
         simp only [Act.put, List.setIfInBounds_toArray, List.set_cons_zero, List.set_cons_succ])
  iterate 5
    first
      | (refine mv_free ?_ (Or.inl ⟨by rfl, ?_⟩) (⟨cc, cs⟩) ?_
         rotate_left 1
         · intro u
           go_simp
           try simp only [d1]
           try simp only [d2]
           try simp only [d3]
           try with_reducible rfl
         simp only [Act.put, List.setIfInBounds_toArray, List.set_cons_zero, List.set_cons_succ])
      | (refine mv_free _ (Or.inr ⟨by rfl, rfl⟩) (⟨cc, cs⟩) ?_
         simp only [Act.put, List.setIfInBounds_toArray, List.set_cons_zero, List.set_cons_succ])
  iterate 1
    first
      | (refine mv_take ?_ (Or.inl ⟨by rfl, ?_⟩) (⟨cc, cs⟩) ?_
         rotate_left 1
         · intro u hu
           (try dsimp only at hu)
           go_simp
           try with_reducible rfl
         simp only [Act.put, List.setIfInBounds_toArray, List.set_cons_zero, List.set_cons_succ])
      | (refine mv_take _ (Or.inr ⟨by rfl, rfl⟩) (⟨cc, cs⟩) ?_
         simp only [Act.put, List.setIfInBounds_toArray, List.set_cons_zero, List.set_cons_succ])
  iterate 2
    first
      | (refine mv_free ?_ (Or.inl ⟨by rfl, ?_⟩) (⟨cc, cs⟩) ?_
         rotate_left 1
         · intro u
           go_simp
           try simp only [d1]
           try simp only [d2]
           try simp only [d3]
           try with_reducible rfl
         simp only [Act.put, List.setIfInBounds_toArray, List.set_cons_zero, List.set_cons_succ])
      | (refine mv_free _ (Or.inr ⟨by rfl, rfl⟩) (⟨cc, cs⟩) ?_
         simp only [Act.put, List.setIfInBounds_toArray, List.set_cons_zero, List.set_cons_succ])
  refine mv_done ?_
  go_wp2
  refine bodyPost_ret (v := .agg #[.int .i64 x2, .int .i64 y2]) (by simp [results, Try.results44, go_sem, k2, k3]) rfl ⟨rfl, ?_⟩
  exact ((hb0.out.drew.setCell (by show w.heap.size ≤ w.heap.size + 1; omega) _).setCell (by show w.heap.size ≤ w.heap.size + 1; omega) _)
set_option maxRecDepth 100000 in
set_option maxHeartbeats 8000000 in
theorem tclip_any (n : Int) (w : World) : Calls Try.prog 43 #[.int .i64 n] w fun e w' => e = .returned (.int .i64 (tcl n)) ∧ w = w' := by
  go_enter Try.func43, Try.ntmps43
  go_wp2
  all_goals
    go_ret
    exact ⟨ret_int (by unfold tcl; omega), rfl⟩
set_option maxRecDepth 100000 in
set_option maxHeartbeats 8000000 in
theorem rtclip_any (n : Int) (w : World) : Calls Try.prog 48 #[.int .i64 n] w fun e w' => e = .returned (.int .i64 (tcl n)) ∧ w = w' := by
  go_enter Try.func48, Try.ntmps48
  go_wp2
  all_goals
    go_ret
    exact ⟨ret_int (by unfold tcl; omega), rfl⟩
end Go.Proofs.Ytiibgblpbjdpaaa
