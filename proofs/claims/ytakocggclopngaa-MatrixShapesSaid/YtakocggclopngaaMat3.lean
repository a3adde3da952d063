/- Package matrix: Turn, Mirror, Symmetric, Outer, Mul. -/
import Derived.Test.YtakocggclopngaaMat2
namespace Go.Proofs.Ytakocggclopngaa
open Go.ChangeShapes Go.WideShapes Go.ChangeAt Go.RowKit
set_option linter.unusedVariables false
set_option linter.unusedSimpArgs false
def trp (X : Nat → Int) (t : Nat) : Int := X (t % 3 * 3 + t / 3)
def mir (X : Nat → Int) (t : Nat) : Int := X (min (t / 3) (t % 3) * 3 + max (t / 3) (t % 3))
def out (A B : Nat → Int) (t : Nat) : Int := prd (A (t / 3)) (B (t % 3))
def mul (X Y : Nat → Int) (t : Nat) : Int := dtI (fun k => X (t / 3 * 3 + k)) (fun k => Y (k * 3 + t % 3))
theorem dm3 {i j : Nat} (hj : j < 3) : (i * 3 + j) / 3 = i ∧ (i * 3 + j) % 3 = j := by omega
theorem prd_eq {a b c d : Int} (h : a = c) (k : b = d) : prd a b = prd c d := by rw [h, k]
theorem dtI_eq {A B C D : Nat → Int} (h : ∀ k, k < 3 → A k = C k) (k : ∀ k, k < 3 → B k = D k) : dtI A B = dtI C D := by
  unfold dtI
  rw [h 0 (by omega), h 1 (by omega), h 2 (by omega), k 0 (by omega), k 1 (by omega), k 2 (by omega)]
set_option maxRecDepth 100000 in
set_option maxHeartbeats 8000000 in
theorem mturn1 (p : Nat) (X : Nat → Int) (i j : Nat) (u : World) (hi : i < 3) (hj : j < 3) (h : Held p [.int .i64 (X 0), .int .i64 (X 1), .int .i64 (X 2), .int .i64 (X 3), .int .i64 (X 4), .int .i64 (X 5), .int .i64 (X 6), .int .i64 (X 7), .int .i64 (X 8)] u) : Calls Try.prog 87 #[.int .i64 (i : Int), .int .i64 (j : Int), .pointer (some ⟨p, 0, none⟩)] u fun e u' => e = .returned (.int .i64 (trp X (i * 3 + j))) ∧ u = u' := by
  have k0 := ml_at h (k := j * 3 + i) (by omega)
  rw [show trp X (i * 3 + j) = X (j * 3 + i) by unfold trp; rw [(dm3 hj).1, (dm3 hj).2]]
  have hi3 : (i : Int) < 3 := by omega
  have hj3 : (j : Int) < 3 := by omega
  generalize X (j * 3 + i) = x at *
  clear h
  go_enter Try.func87, Try.ntmps87
  go_wp2
  go_ret
  exact ⟨rfl, rfl⟩
set_option maxRecDepth 100000 in
set_option maxHeartbeats 8000000 in
theorem mmirror1 (p : Nat) (X : Nat → Int) (i j : Nat) (u : World) (hi : i < 3) (hj : j < 3) (h : Held p [.int .i64 (X 0), .int .i64 (X 1), .int .i64 (X 2), .int .i64 (X 3), .int .i64 (X 4), .int .i64 (X 5), .int .i64 (X 6), .int .i64 (X 7), .int .i64 (X 8)] u) : Calls Try.prog 95 #[.int .i64 (i : Int), .int .i64 (j : Int), .pointer (some ⟨p, 0, none⟩)] u fun e u' => e = .returned (.int .i64 (mir X (i * 3 + j))) ∧ u = u' := by
  have hi3 : (i : Int) < 3 := by omega
  have hj3 : (j : Int) < 3 := by omega
  rcases Nat.lt_trichotomy i j with hc | hc | hc
  · have k0 := ml_at h (k := i * 3 + j) (by omega)
    rw [show mir X (i * 3 + j) = X (i * 3 + j) by unfold mir; rw [(dm3 hj).1, (dm3 hj).2, Nat.min_eq_left (by omega), Nat.max_eq_right (by omega)]]
    have hc3 : (i : Int) < (j : Int) := by omega
    generalize X (i * 3 + j) = x at *
    clear h
    go_enter Try.func95, Try.ntmps95
    go_wp2
    all_goals first | (exfalso; omega) | skip
    all_goals
      go_ret
      exact ⟨rfl, rfl⟩
  · subst hc
    have k0 := ml_at h (k := i * 3 + i) (by omega)
    rw [show mir X (i * 3 + i) = X (i * 3 + i) by unfold mir; rw [(dm3 hj).1, (dm3 hj).2, Nat.min_self, Nat.max_self]]
    generalize X (i * 3 + i) = x at *
    clear h
    go_enter Try.func95, Try.ntmps95
    go_wp2
    all_goals first | (exfalso; omega) | skip
    all_goals
      go_ret
      exact ⟨rfl, rfl⟩
  · have k0 := ml_at h (k := j * 3 + i) (by omega)
    rw [show mir X (i * 3 + j) = X (j * 3 + i) by unfold mir; rw [(dm3 hj).1, (dm3 hj).2, Nat.min_eq_right (by omega), Nat.max_eq_left (by omega)]]
    have hc3 : (j : Int) < (i : Int) := by omega
    generalize X (j * 3 + i) = x at *
    clear h
    go_enter Try.func95, Try.ntmps95
    go_wp2
    all_goals first | (exfalso; omega) | skip
    all_goals
      go_ret
      exact ⟨rfl, rfl⟩
set_option maxRecDepth 100000 in
set_option maxHeartbeats 8000000 in
theorem mouter1 (p q : Nat) (A B : Nat → Int) (i j : Nat) (u : World) (hi : i < 3) (hj : j < 3) (h : Held p [.int .i64 (A 0), .int .i64 (A 1), .int .i64 (A 2)] u) (g : Held q [.int .i64 (B 0), .int .i64 (B 1), .int .i64 (B 2)] u) : Calls Try.prog 89 #[.int .i64 (i : Int), .int .i64 (j : Int), .pointer (some ⟨p, 0, none⟩), .pointer (some ⟨q, 0, none⟩)] u fun e u' => e = .returned (.int .i64 (out A B (i * 3 + j))) ∧ Below u.heap.size u u' := by
  have k0 := vl_at h hi
  have k1 := vl_at g hj
  rw [show out A B (i * 3 + j) = prd (A i) (B j) by unfold out; rw [(dm3 hj).1, (dm3 hj).2]]
  have hi3 : (i : Int) < 3 := by omega
  have hj3 : (j : Int) < 3 := by omega
  have MP := Lib.hid (fun v => mproduct (A i) (B j) v)
  generalize prd (A i) (B j) = P at *
  generalize A i = x at *
  generalize B j = y at *
  clear h g
  go_enter Try.func89, Try.ntmps89
  go_wp2_with fail
  refine region_moves (fun v => v.cell? ⟨p, i, none⟩ = some (.int .i64 x) ∧ v.cell? ⟨q, j, none⟩ = some (.int .i64 y)) [(6, [(2, 6), (5, 6), (1, 2), (4, 5), (0, 1), (3, 4)])] [(.free, 0), (.free, 1), (.take, 2), (.free, 3), (.free, 4), (.take, 5), (.late, 6), (.free, 7)] _ (by kernel_rfl) (by kernel_rfl) (by kernel_rfl) (by kernel_rfl) (by decide) rfl (fun _ _ _ _ _ h => h) ?_
  simp only [List.filterMap_cons, List.filterMap_nil, List.getElem?_toArray, List.getElem?_cons_zero, List.getElem?_cons_succ, Option.map_some]
  iterate 2
    first
      | (refine mv_free ?_ (Or.inl ⟨by rfl, ?_⟩) (⟨k0, k1⟩) ?_
         rotate_left 1
         · intro u
           go_simp
           try simp only [d1]
           try simp only [d2]
           try simp only [d3]
           try with_reducible rfl
         simp only [Act.put, List.setIfInBounds_toArray, List.set_cons_zero, List.set_cons_succ])
      | (refine mv_free _ (Or.inr ⟨by rfl, rfl⟩) (⟨k0, k1⟩) ?_
         simp only [Act.put, List.setIfInBounds_toArray, List.set_cons_zero, List.set_cons_succ])
  iterate 1
    first
      | (refine mv_take ?_ (Or.inl ⟨by rfl, ?_⟩) (⟨k0, k1⟩) ?_
         rotate_left 1
         · intro u hu
           (try dsimp only at hu)
           go_simp
           try with_reducible rfl
         simp only [Act.put, List.setIfInBounds_toArray, List.set_cons_zero, List.set_cons_succ])
      | (refine mv_take _ (Or.inr ⟨by rfl, rfl⟩) (⟨k0, k1⟩) ?_
         simp only [Act.put, List.setIfInBounds_toArray, List.set_cons_zero, List.set_cons_succ])
  iterate 2
    first
      | (refine mv_free ?_ (Or.inl ⟨by rfl, ?_⟩) (⟨k0, k1⟩) ?_
         rotate_left 1
         · intro u
           go_simp
           try simp only [d1]
           try simp only [d2]
           try simp only [d3]
           try with_reducible rfl
         simp only [Act.put, List.setIfInBounds_toArray, List.set_cons_zero, List.set_cons_succ])
      | (refine mv_free _ (Or.inr ⟨by rfl, rfl⟩) (⟨k0, k1⟩) ?_
         simp only [Act.put, List.setIfInBounds_toArray, List.set_cons_zero, List.set_cons_succ])
  iterate 1
    first
      | (refine mv_take ?_ (Or.inl ⟨by rfl, ?_⟩) (⟨k0, k1⟩) ?_
         rotate_left 1
         · intro u hu
           (try dsimp only at hu)
           go_simp
           try with_reducible rfl
         simp only [Act.put, List.setIfInBounds_toArray, List.set_cons_zero, List.set_cons_succ])
      | (refine mv_take _ (Or.inr ⟨by rfl, rfl⟩) (⟨k0, k1⟩) ?_
         simp only [Act.put, List.setIfInBounds_toArray, List.set_cons_zero, List.set_cons_succ])
  refine mv_late (fun K hK => ?_)
  go_simp
  refine (MP.out _).mono ?_
  rintro e w1 ⟨rfl, hb1⟩
  have hb2 := (Below.refl u.heap.size u).drew.trans hb1
  clear k0 k1 hb1
  go_wp2_with fail
  refine hK.out (fun _ => True) _ _ ?_
  clear hK K
  iterate 1
    first
      | (refine mv_free ?_ (Or.inl ⟨by rfl, ?_⟩) (trivial) ?_
         rotate_left 1
         · intro u
           go_simp
           try simp only [d1]
           try simp only [d2]
           try simp only [d3]
           try with_reducible rfl
         simp only [Act.put, List.setIfInBounds_toArray, List.set_cons_zero, List.set_cons_succ])
      | (refine mv_free _ (Or.inr ⟨by rfl, rfl⟩) (trivial) ?_
         simp only [Act.put, List.setIfInBounds_toArray, List.set_cons_zero, List.set_cons_succ])
  refine mv_done ?_
  go_wp2
  go_ret
  exact ⟨rfl, hb2⟩
set_option maxRecDepth 100000 in
set_option maxHeartbeats 8000000 in
theorem mmul1 (p q : Nat) (X Y : Nat → Int) (i j : Nat) (u : World) (hi : i < 3) (hj : j < 3) (h : Held p [.int .i64 (X 0), .int .i64 (X 1), .int .i64 (X 2), .int .i64 (X 3), .int .i64 (X 4), .int .i64 (X 5), .int .i64 (X 6), .int .i64 (X 7), .int .i64 (X 8)] u) (g : Held q [.int .i64 (trp Y 0), .int .i64 (trp Y 1), .int .i64 (trp Y 2), .int .i64 (trp Y 3), .int .i64 (trp Y 4), .int .i64 (trp Y 5), .int .i64 (trp Y 6), .int .i64 (trp Y 7), .int .i64 (trp Y 8)] u) : Calls Try.prog 91 #[.int .i64 (i : Int), .int .i64 (j : Int), .pointer (some ⟨p, 0, none⟩), .pointer (some ⟨q, 0, none⟩)] u fun e u' => e = .returned (.int .i64 (mul X Y (i * 3 + j))) ∧ Below u.heap.size u u' := by
  have k0 := ml_at h (k := i * 3) (by omega)
  have k1 := ml_at h (k := i * 3 + 1) (by omega)
  have k2 := ml_at h (k := i * 3 + 2) (by omega)
  have m0 := ml_at g (k := j * 3) (by omega)
  have m1 := ml_at g (k := j * 3 + 1) (by omega)
  have m2 := ml_at g (k := j * 3 + 2) (by omega)
  have MD := fun v => mdot (fun k => X (i * 3 + k)) (fun k => trp Y (j * 3 + k)) v
  rw [show mul X Y (i * 3 + j) = dtI (fun k => X (i * 3 + k)) (fun k => trp Y (j * 3 + k)) by
    unfold mul
    rw [(dm3 hj).1, (dm3 hj).2]
    exact dtI_eq (fun k hk => rfl) (fun k hk => by show Y _ = trp Y _; unfold trp; rw [(dm3 hk).1, (dm3 hk).2])]
  have hi3 : (i : Int) < 3 := by omega
  have hj3 : (j : Int) < 3 := by omega
  generalize dtI (fun k => X (i * 3 + k)) (fun k => trp Y (j * 3 + k)) = P at *
  simp only [Nat.add_zero] at MD
  generalize X (i * 3) = x0 at *
  generalize X (i * 3 + 1) = x1 at *
  generalize X (i * 3 + 2) = x2 at *
  generalize trp Y (j * 3) = y0 at *
  generalize trp Y (j * 3 + 1) = y1 at *
  generalize trp Y (j * 3 + 2) = y2 at *
  replace MD := Lib.hid MD
  clear h g
  go_enter Try.func91, Try.ntmps91
  go_wp2_with fail
  refine region_moves (fun v => v.cell? ⟨p, i * 3, none⟩ = some (.int .i64 x0) ∧ v.cell? ⟨p, i * 3 + 1, none⟩ = some (.int .i64 x1) ∧ v.cell? ⟨p, i * 3 + 2, none⟩ = some (.int .i64 x2) ∧ v.cell? ⟨q, j * 3, none⟩ = some (.int .i64 y0) ∧ v.cell? ⟨q, j * 3 + 1, none⟩ = some (.int .i64 y1) ∧ v.cell? ⟨q, j * 3 + 2, none⟩ = some (.int .i64 y2)) [(6, [(2, 6), (5, 6), (1, 2), (4, 5), (0, 1), (3, 4)])] [(.free, 0), (.free, 1), (.take, 2), (.free, 3), (.free, 4), (.take, 5), (.late, 6), (.free, 7)] _ (by kernel_rfl) (by kernel_rfl) (by kernel_rfl) (by kernel_rfl) (by decide) rfl (fun _ _ _ _ _ h => h) ?_
  simp only [List.filterMap_cons, List.filterMap_nil, List.getElem?_toArray, List.getElem?_cons_zero, List.getElem?_cons_succ, Option.map_some]
  iterate 2
    first
      | (refine mv_free ?_ (Or.inl ⟨by rfl, ?_⟩) (⟨k0, k1, k2, m0, m1, m2⟩) ?_
         rotate_left 1
         · intro u
           go_simp
           try simp only [d1]
           try simp only [d2]
           try simp only [d3]
           try with_reducible rfl
         simp only [Act.put, List.setIfInBounds_toArray, List.set_cons_zero, List.set_cons_succ])
      | (refine mv_free _ (Or.inr ⟨by rfl, rfl⟩) (⟨k0, k1, k2, m0, m1, m2⟩) ?_
         simp only [Act.put, List.setIfInBounds_toArray, List.set_cons_zero, List.set_cons_succ])
  iterate 1
    first
      | (refine mv_take ?_ (Or.inl ⟨by rfl, ?_⟩) (⟨k0, k1, k2, m0, m1, m2⟩) ?_
         rotate_left 1
         · intro u hu
           (try dsimp only at hu)
           go_simp
           try with_reducible rfl
         simp only [Act.put, List.setIfInBounds_toArray, List.set_cons_zero, List.set_cons_succ])
      | (refine mv_take _ (Or.inr ⟨by rfl, rfl⟩) (⟨k0, k1, k2, m0, m1, m2⟩) ?_
         simp only [Act.put, List.setIfInBounds_toArray, List.set_cons_zero, List.set_cons_succ])
  iterate 2
    first
      | (refine mv_free ?_ (Or.inl ⟨by rfl, ?_⟩) (⟨k0, k1, k2, m0, m1, m2⟩) ?_
         rotate_left 1
         · intro u
           go_simp
           try simp only [d1]
           try simp only [d2]
           try simp only [d3]
           try with_reducible rfl
         simp only [Act.put, List.setIfInBounds_toArray, List.set_cons_zero, List.set_cons_succ])
      | (refine mv_free _ (Or.inr ⟨by rfl, rfl⟩) (⟨k0, k1, k2, m0, m1, m2⟩) ?_
         simp only [Act.put, List.setIfInBounds_toArray, List.set_cons_zero, List.set_cons_succ])
  iterate 1
    first
      | (refine mv_take ?_ (Or.inl ⟨by rfl, ?_⟩) (⟨k0, k1, k2, m0, m1, m2⟩) ?_
         rotate_left 1
         · intro u hu
           (try dsimp only at hu)
           go_simp
           try with_reducible rfl
         simp only [Act.put, List.setIfInBounds_toArray, List.set_cons_zero, List.set_cons_succ])
      | (refine mv_take _ (Or.inr ⟨by rfl, rfl⟩) (⟨k0, k1, k2, m0, m1, m2⟩) ?_
         simp only [Act.put, List.setIfInBounds_toArray, List.set_cons_zero, List.set_cons_succ])
  refine mv_late (fun K hK => ?_)
  go_simp
  refine (MD.out _).mono ?_
  rintro e w1 ⟨rfl, hb1⟩
  have hb2 := (Below.refl u.heap.size u).drew.trans hb1
  clear k0 k1 k2 m0 m1 m2 hb1
  go_wp2_with fail
  refine hK.out (fun _ => True) _ _ ?_
  clear hK K
  iterate 1
    first
      | (refine mv_free ?_ (Or.inl ⟨by rfl, ?_⟩) (trivial) ?_
         rotate_left 1
         · intro u
           go_simp
           try simp only [d1]
           try simp only [d2]
           try simp only [d3]
           try with_reducible rfl
         simp only [Act.put, List.setIfInBounds_toArray, List.set_cons_zero, List.set_cons_succ])
      | (refine mv_free _ (Or.inr ⟨by rfl, rfl⟩) (trivial) ?_
         simp only [Act.put, List.setIfInBounds_toArray, List.set_cons_zero, List.set_cons_succ])
  refine mv_done ?_
  go_wp2
  go_ret
  exact ⟨rfl, hb2⟩
theorem mturn_box (w : World) (X : Nat → Int) : ∃ V, V = ((w.alloc (.cells #[.int .i64 (X 0), .int .i64 (X 1), .int .i64 (X 2), .int .i64 (X 3), .int .i64 (X 4), .int .i64 (X 5), .int .i64 (X 6), .int .i64 (X 7), .int .i64 (X 8)] 56)).alloc (.cells #[.int .i64 0, .int .i64 0, .int .i64 0, .int .i64 0, .int .i64 0, .int .i64 0, .int .i64 0, .int .i64 0, .int .i64 0] 56)) ∧ Below w.heap.size w V ∧ Held w.heap.size [.int .i64 (X 0), .int .i64 (X 1), .int .i64 (X 2), .int .i64 (X 3), .int .i64 (X 4), .int .i64 (X 5), .int .i64 (X 6), .int .i64 (X 7), .int .i64 (X 8)] V ∧ Held (w.heap.size + 1) [.int .i64 0, .int .i64 0, .int .i64 0, .int .i64 0, .int .i64 0, .int .i64 0, .int .i64 0, .int .i64 0, .int .i64 0] V ∧ V.heap.size = w.heap.size + 2 := by
  refine ⟨_, rfl, (by repeat (first | exact Below.refl _ _ | assumption | apply Below.drew | apply below_drewN | (refine Below.alloc ?_ (by first | exact Nat.le_refl _ | omega | (simp <;> omega)) _) | (refine Below.setCell ?_ (by first | exact Nat.le_refl _ | omega | (simp <;> omega)) _))), ?_, ?_, by simp⟩
  · have := ((Held.new w [.int .i64 (X 0), .int .i64 (X 1), .int .i64 (X 2), .int .i64 (X 3), .int .i64 (X 4), .int .i64 (X 5), .int .i64 (X 6), .int .i64 (X 7), .int .i64 (X 8)] 56).alloc (.cells #[.int .i64 0, .int .i64 0, .int .i64 0, .int .i64 0, .int .i64 0, .int .i64 0, .int .i64 0, .int .i64 0, .int .i64 0] 56))
    simpa using this
  · have := Held.new (w.alloc (.cells #[.int .i64 (X 0), .int .i64 (X 1), .int .i64 (X 2), .int .i64 (X 3), .int .i64 (X 4), .int .i64 (X 5), .int .i64 (X 6), .int .i64 (X 7), .int .i64 (X 8)] 56)) [.int .i64 0, .int .i64 0, .int .i64 0, .int .i64 0, .int .i64 0, .int .i64 0, .int .i64 0, .int .i64 0, .int .i64 0] 56
    simpa using this
set_option maxRecDepth 100000 in
set_option maxHeartbeats 8000000 in
theorem mturn (X : Nat → Int) (w : World) : Calls Try.prog 25 #[.agg #[.int .i64 (X 0), .int .i64 (X 1), .int .i64 (X 2), .int .i64 (X 3), .int .i64 (X 4), .int .i64 (X 5), .int .i64 (X 6), .int .i64 (X 7), .int .i64 (X 8)]] w fun e w' => e = .returned (.agg #[.int .i64 ((trp X) 0), .int .i64 ((trp X) 1), .int .i64 ((trp X) 2), .int .i64 ((trp X) 3), .int .i64 ((trp X) 4), .int .i64 ((trp X) 5), .int .i64 ((trp X) 6), .int .i64 ((trp X) 7), .int .i64 ((trp X) 8)]) ∧ Below w.heap.size w w' := by
  obtain ⟨V, eV, hb0, hX0, hR, hz⟩ := mturn_box w X
  have BD := Lib.hid (mbuild 87 #[.pointer (some ⟨w.heap.size, 0, none⟩)] (trp X) (fun u => Held w.heap.size [.int .i64 (X 0), .int .i64 (X 1), .int .i64 (X 2), .int .i64 (X 3), .int .i64 (X 4), .int .i64 (X 5), .int .i64 (X 6), .int .i64 (X 7), .int .i64 (X 8)] u ∧ Held (w.heap.size + 1) [.int .i64 0, .int .i64 0, .int .i64 0, .int .i64 0, .int .i64 0, .int .i64 0, .int .i64 0, .int .i64 0, .int .i64 0] u ∧ Below w.heap.size w u) (V.heap.size + 2) V (enters_of Try.func87 (by kernel_rfl) rfl) (by omega) (by omega)
    (fun u u' h k => ⟨h.1.below k (by omega), h.2.1.below k (by omega), h.2.2.trans (k.mono (by omega))⟩) ⟨hX0, hR, hb0⟩
    (fun u i j hi hj h => (mturn1 w.heap.size X i j u hi hj h.1).mono (fun e u' q => by obtain ⟨rfl, rfl⟩ := q; exact ⟨rfl, h, .of_below (Below.refl _ _)⟩)))
  replace eV := Lib.hid eV
  replace hz := Lib.hid hz
  clear hX0 hR hb0
  go_enter Try.func25, Try.ntmps25
  go_upto_region 1 with (fail)
  rw [← eV.out]
  go_wp2_with fail
  refine BD.out.mono ?_
  rintro e w1 ⟨rfl, ⟨-, hR1, hb1⟩, -⟩
  obtain ⟨u9, e9, h9, b9⟩ := ml_laid hR1 rfl (trp X)
  have hb9 := Lib.hid (hb1.trans (b9.mono (by omega)))
  replace e9 := Lib.hid e9
  obtain ⟨p0, q0⟩ := hR1.one 0 rfl
  obtain ⟨p1, q1⟩ := hR1.one 1 rfl
  obtain ⟨p2, q2⟩ := hR1.one 2 rfl
  obtain ⟨p3, q3⟩ := hR1.one 3 rfl
  obtain ⟨p4, q4⟩ := hR1.one 4 rfl
  obtain ⟨p5, q5⟩ := hR1.one 5 rfl
  obtain ⟨p6, q6⟩ := hR1.one 6 rfl
  obtain ⟨p7, q7⟩ := hR1.one 7 rfl
  obtain ⟨p8, q8⟩ := hR1.one 8 rfl
  clear BD hR1 hb1 b9
  go_wp2
  rw [← e9.out]
  obtain ⟨y0, z0⟩ := h9.one 0 rfl
  obtain ⟨y1, z1⟩ := h9.one 1 rfl
  obtain ⟨y2, z2⟩ := h9.one 2 rfl
  obtain ⟨y3, z3⟩ := h9.one 3 rfl
  obtain ⟨y4, z4⟩ := h9.one 4 rfl
  obtain ⟨y5, z5⟩ := h9.one 5 rfl
  obtain ⟨y6, z6⟩ := h9.one 6 rfl
  obtain ⟨y7, z7⟩ := h9.one 7 rfl
  obtain ⟨y8, z8⟩ := h9.one 8 rfl
  exact bodyPost_ret (v := .agg #[.int .i64 ((trp X) 0), .int .i64 ((trp X) 1), .int .i64 ((trp X) 2), .int .i64 ((trp X) 3), .int .i64 ((trp X) 4), .int .i64 ((trp X) 5), .int .i64 ((trp X) 6), .int .i64 ((trp X) 7), .int .i64 ((trp X) 8)]) (by simp [results, Try.results25, go_sem, y0, y1, y2, y3, y4, y5, y6, y7, y8]) rfl ⟨rfl, hb9.out⟩
theorem mmirror_box (w : World) (X : Nat → Int) : ∃ V, V = ((w.alloc (.cells #[.int .i64 (X 0), .int .i64 (X 1), .int .i64 (X 2), .int .i64 (X 3), .int .i64 (X 4), .int .i64 (X 5), .int .i64 (X 6), .int .i64 (X 7), .int .i64 (X 8)] 56)).alloc (.cells #[.int .i64 0, .int .i64 0, .int .i64 0, .int .i64 0, .int .i64 0, .int .i64 0, .int .i64 0, .int .i64 0, .int .i64 0] 56)) ∧ Below w.heap.size w V ∧ Held w.heap.size [.int .i64 (X 0), .int .i64 (X 1), .int .i64 (X 2), .int .i64 (X 3), .int .i64 (X 4), .int .i64 (X 5), .int .i64 (X 6), .int .i64 (X 7), .int .i64 (X 8)] V ∧ Held (w.heap.size + 1) [.int .i64 0, .int .i64 0, .int .i64 0, .int .i64 0, .int .i64 0, .int .i64 0, .int .i64 0, .int .i64 0, .int .i64 0] V ∧ V.heap.size = w.heap.size + 2 := by
  refine ⟨_, rfl, (by repeat (first | exact Below.refl _ _ | assumption | apply Below.drew | apply below_drewN | (refine Below.alloc ?_ (by first | exact Nat.le_refl _ | omega | (simp <;> omega)) _) | (refine Below.setCell ?_ (by first | exact Nat.le_refl _ | omega | (simp <;> omega)) _))), ?_, ?_, by simp⟩
  · have := ((Held.new w [.int .i64 (X 0), .int .i64 (X 1), .int .i64 (X 2), .int .i64 (X 3), .int .i64 (X 4), .int .i64 (X 5), .int .i64 (X 6), .int .i64 (X 7), .int .i64 (X 8)] 56).alloc (.cells #[.int .i64 0, .int .i64 0, .int .i64 0, .int .i64 0, .int .i64 0, .int .i64 0, .int .i64 0, .int .i64 0, .int .i64 0] 56))
    simpa using this
  · have := Held.new (w.alloc (.cells #[.int .i64 (X 0), .int .i64 (X 1), .int .i64 (X 2), .int .i64 (X 3), .int .i64 (X 4), .int .i64 (X 5), .int .i64 (X 6), .int .i64 (X 7), .int .i64 (X 8)] 56)) [.int .i64 0, .int .i64 0, .int .i64 0, .int .i64 0, .int .i64 0, .int .i64 0, .int .i64 0, .int .i64 0, .int .i64 0] 56
    simpa using this
set_option maxRecDepth 100000 in
set_option maxHeartbeats 8000000 in
theorem mmirror (X : Nat → Int) (w : World) : Calls Try.prog 44 #[.agg #[.int .i64 (X 0), .int .i64 (X 1), .int .i64 (X 2), .int .i64 (X 3), .int .i64 (X 4), .int .i64 (X 5), .int .i64 (X 6), .int .i64 (X 7), .int .i64 (X 8)]] w fun e w' => e = .returned (.agg #[.int .i64 ((mir X) 0), .int .i64 ((mir X) 1), .int .i64 ((mir X) 2), .int .i64 ((mir X) 3), .int .i64 ((mir X) 4), .int .i64 ((mir X) 5), .int .i64 ((mir X) 6), .int .i64 ((mir X) 7), .int .i64 ((mir X) 8)]) ∧ Below w.heap.size w w' := by
  obtain ⟨V, eV, hb0, hX0, hR, hz⟩ := mmirror_box w X
  have BD := Lib.hid (mbuild 95 #[.pointer (some ⟨w.heap.size, 0, none⟩)] (mir X) (fun u => Held w.heap.size [.int .i64 (X 0), .int .i64 (X 1), .int .i64 (X 2), .int .i64 (X 3), .int .i64 (X 4), .int .i64 (X 5), .int .i64 (X 6), .int .i64 (X 7), .int .i64 (X 8)] u ∧ Held (w.heap.size + 1) [.int .i64 0, .int .i64 0, .int .i64 0, .int .i64 0, .int .i64 0, .int .i64 0, .int .i64 0, .int .i64 0, .int .i64 0] u ∧ Below w.heap.size w u) (V.heap.size + 2) V (enters_of Try.func95 (by kernel_rfl) rfl) (by omega) (by omega)
    (fun u u' h k => ⟨h.1.below k (by omega), h.2.1.below k (by omega), h.2.2.trans (k.mono (by omega))⟩) ⟨hX0, hR, hb0⟩
    (fun u i j hi hj h => (mmirror1 w.heap.size X i j u hi hj h.1).mono (fun e u' q => by obtain ⟨rfl, rfl⟩ := q; exact ⟨rfl, h, .of_below (Below.refl _ _)⟩)))
  replace eV := Lib.hid eV
  replace hz := Lib.hid hz
  clear hX0 hR hb0
  go_enter Try.func44, Try.ntmps44
  go_upto_region 1 with (fail)
  rw [← eV.out]
  go_wp2_with fail
  refine BD.out.mono ?_
  rintro e w1 ⟨rfl, ⟨-, hR1, hb1⟩, -⟩
  obtain ⟨u9, e9, h9, b9⟩ := ml_laid hR1 rfl (mir X)
  have hb9 := Lib.hid (hb1.trans (b9.mono (by omega)))
  replace e9 := Lib.hid e9
  obtain ⟨p0, q0⟩ := hR1.one 0 rfl
  obtain ⟨p1, q1⟩ := hR1.one 1 rfl
  obtain ⟨p2, q2⟩ := hR1.one 2 rfl
  obtain ⟨p3, q3⟩ := hR1.one 3 rfl
  obtain ⟨p4, q4⟩ := hR1.one 4 rfl
  obtain ⟨p5, q5⟩ := hR1.one 5 rfl
  obtain ⟨p6, q6⟩ := hR1.one 6 rfl
  obtain ⟨p7, q7⟩ := hR1.one 7 rfl
  obtain ⟨p8, q8⟩ := hR1.one 8 rfl
  clear BD hR1 hb1 b9
  go_wp2
  rw [← e9.out]
  obtain ⟨y0, z0⟩ := h9.one 0 rfl
  obtain ⟨y1, z1⟩ := h9.one 1 rfl
  obtain ⟨y2, z2⟩ := h9.one 2 rfl
  obtain ⟨y3, z3⟩ := h9.one 3 rfl
  obtain ⟨y4, z4⟩ := h9.one 4 rfl
  obtain ⟨y5, z5⟩ := h9.one 5 rfl
  obtain ⟨y6, z6⟩ := h9.one 6 rfl
  obtain ⟨y7, z7⟩ := h9.one 7 rfl
  obtain ⟨y8, z8⟩ := h9.one 8 rfl
  exact bodyPost_ret (v := .agg #[.int .i64 ((mir X) 0), .int .i64 ((mir X) 1), .int .i64 ((mir X) 2), .int .i64 ((mir X) 3), .int .i64 ((mir X) 4), .int .i64 ((mir X) 5), .int .i64 ((mir X) 6), .int .i64 ((mir X) 7), .int .i64 ((mir X) 8)]) (by simp [results, Try.results44, go_sem, y0, y1, y2, y3, y4, y5, y6, y7, y8]) rfl ⟨rfl, hb9.out⟩
theorem mouter_box (w : World) (A B : Nat → Int) : ∃ V, V = (((w.alloc (.cells #[.int .i64 (A 0), .int .i64 (A 1), .int .i64 (A 2)] 65)).alloc (.cells #[.int .i64 (B 0), .int .i64 (B 1), .int .i64 (B 2)] 65)).alloc (.cells #[.int .i64 0, .int .i64 0, .int .i64 0, .int .i64 0, .int .i64 0, .int .i64 0, .int .i64 0, .int .i64 0, .int .i64 0] 56)) ∧ Below w.heap.size w V ∧ Held w.heap.size [.int .i64 (A 0), .int .i64 (A 1), .int .i64 (A 2)] V ∧ Held (w.heap.size + 1) [.int .i64 (B 0), .int .i64 (B 1), .int .i64 (B 2)] V ∧ Held (w.heap.size + 2) [.int .i64 0, .int .i64 0, .int .i64 0, .int .i64 0, .int .i64 0, .int .i64 0, .int .i64 0, .int .i64 0, .int .i64 0] V ∧ V.heap.size = w.heap.size + 3 := by
  refine ⟨_, rfl, (by repeat (first | exact Below.refl _ _ | assumption | apply Below.drew | apply below_drewN | (refine Below.alloc ?_ (by first | exact Nat.le_refl _ | omega | (simp <;> omega)) _) | (refine Below.setCell ?_ (by first | exact Nat.le_refl _ | omega | (simp <;> omega)) _))), ?_, ?_, ?_, by simp⟩
  · have := (((Held.new w [.int .i64 (A 0), .int .i64 (A 1), .int .i64 (A 2)] 65).alloc (.cells #[.int .i64 (B 0), .int .i64 (B 1), .int .i64 (B 2)] 65)).alloc (.cells #[.int .i64 0, .int .i64 0, .int .i64 0, .int .i64 0, .int .i64 0, .int .i64 0, .int .i64 0, .int .i64 0, .int .i64 0] 56))
    simpa using this
  · have := ((Held.new (w.alloc (.cells #[.int .i64 (A 0), .int .i64 (A 1), .int .i64 (A 2)] 65)) [.int .i64 (B 0), .int .i64 (B 1), .int .i64 (B 2)] 65).alloc (.cells #[.int .i64 0, .int .i64 0, .int .i64 0, .int .i64 0, .int .i64 0, .int .i64 0, .int .i64 0, .int .i64 0, .int .i64 0] 56))
    simpa using this
  · have := Held.new ((w.alloc (.cells #[.int .i64 (A 0), .int .i64 (A 1), .int .i64 (A 2)] 65)).alloc (.cells #[.int .i64 (B 0), .int .i64 (B 1), .int .i64 (B 2)] 65)) [.int .i64 0, .int .i64 0, .int .i64 0, .int .i64 0, .int .i64 0, .int .i64 0, .int .i64 0, .int .i64 0, .int .i64 0] 56
    simpa using this
set_option maxRecDepth 100000 in
set_option maxHeartbeats 8000000 in
theorem mouter (A B : Nat → Int) (w : World) : Calls Try.prog 35 #[.agg #[.int .i64 (A 0), .int .i64 (A 1), .int .i64 (A 2)], .agg #[.int .i64 (B 0), .int .i64 (B 1), .int .i64 (B 2)]] w fun e w' => e = .returned (.agg #[.int .i64 ((out A B) 0), .int .i64 ((out A B) 1), .int .i64 ((out A B) 2), .int .i64 ((out A B) 3), .int .i64 ((out A B) 4), .int .i64 ((out A B) 5), .int .i64 ((out A B) 6), .int .i64 ((out A B) 7), .int .i64 ((out A B) 8)]) ∧ Below w.heap.size w w' := by
  obtain ⟨V, eV, hb0, hX0, hX1, hR, hz⟩ := mouter_box w A B
  have BD := Lib.hid (mbuild 89 #[.pointer (some ⟨w.heap.size, 0, none⟩), .pointer (some ⟨(w.heap.size + 1), 0, none⟩)] (out A B) (fun u => Held w.heap.size [.int .i64 (A 0), .int .i64 (A 1), .int .i64 (A 2)] u ∧ Held (w.heap.size + 1) [.int .i64 (B 0), .int .i64 (B 1), .int .i64 (B 2)] u ∧ Held (w.heap.size + 2) [.int .i64 0, .int .i64 0, .int .i64 0, .int .i64 0, .int .i64 0, .int .i64 0, .int .i64 0, .int .i64 0, .int .i64 0] u ∧ Below w.heap.size w u) (V.heap.size + 2) V (enters_of Try.func89 (by kernel_rfl) rfl) (by omega) (by omega)
    (fun u u' h k => ⟨h.1.below k (by omega), h.2.1.below k (by omega), h.2.2.1.below k (by omega), h.2.2.2.trans (k.mono (by omega))⟩) ⟨hX0, hX1, hR, hb0⟩
    (fun u i j hi hj h => (mouter1 w.heap.size (w.heap.size + 1) A B i j u hi hj h.1 h.2.1).mono (fun e u' q => ⟨q.1, ⟨h.1.bel q.2, h.2.1.bel q.2, h.2.2.1.bel q.2, h.2.2.2.trans (q.2.mono h.2.2.2.size)⟩, .of_below q.2⟩)))
  replace eV := Lib.hid eV
  replace hz := Lib.hid hz
  clear hX0 hX1 hR hb0
  go_enter Try.func35, Try.ntmps35
  go_upto_region 1 with (fail)
  rw [← eV.out]
  go_wp2_with fail
  refine BD.out.mono ?_
  rintro e w1 ⟨rfl, ⟨-, -, hR1, hb1⟩, -⟩
  obtain ⟨u9, e9, h9, b9⟩ := ml_laid hR1 rfl (out A B)
  have hb9 := Lib.hid (hb1.trans (b9.mono (by omega)))
  replace e9 := Lib.hid e9
  obtain ⟨p0, q0⟩ := hR1.one 0 rfl
  obtain ⟨p1, q1⟩ := hR1.one 1 rfl
  obtain ⟨p2, q2⟩ := hR1.one 2 rfl
  obtain ⟨p3, q3⟩ := hR1.one 3 rfl
  obtain ⟨p4, q4⟩ := hR1.one 4 rfl
  obtain ⟨p5, q5⟩ := hR1.one 5 rfl
  obtain ⟨p6, q6⟩ := hR1.one 6 rfl
  obtain ⟨p7, q7⟩ := hR1.one 7 rfl
  obtain ⟨p8, q8⟩ := hR1.one 8 rfl
  clear BD hR1 hb1 b9
  go_wp2
  rw [← e9.out]
  obtain ⟨y0, z0⟩ := h9.one 0 rfl
  obtain ⟨y1, z1⟩ := h9.one 1 rfl
  obtain ⟨y2, z2⟩ := h9.one 2 rfl
  obtain ⟨y3, z3⟩ := h9.one 3 rfl
  obtain ⟨y4, z4⟩ := h9.one 4 rfl
  obtain ⟨y5, z5⟩ := h9.one 5 rfl
  obtain ⟨y6, z6⟩ := h9.one 6 rfl
  obtain ⟨y7, z7⟩ := h9.one 7 rfl
  obtain ⟨y8, z8⟩ := h9.one 8 rfl
  exact bodyPost_ret (v := .agg #[.int .i64 ((out A B) 0), .int .i64 ((out A B) 1), .int .i64 ((out A B) 2), .int .i64 ((out A B) 3), .int .i64 ((out A B) 4), .int .i64 ((out A B) 5), .int .i64 ((out A B) 6), .int .i64 ((out A B) 7), .int .i64 ((out A B) 8)]) (by simp [results, Try.results35, go_sem, y0, y1, y2, y3, y4, y5, y6, y7, y8]) rfl ⟨rfl, hb9.out⟩
end Go.Proofs.Ytakocggclopngaa
