/- What the laws of the wind keep themselves: clip, hypot, the wind of a flow; the example; walked. -/
import Derived.Test.YtiibgblpbjdpaaaWind1
import Derived.Test.YtiibgblpbjdpaaaTurn9
import Derived.Test.YtiibgblpbjdpaaaTree
import Derived.Test.YtiibgblpbjdpaaaClip09
import Derived.Deep.Cut
namespace Go.Proofs.Ytiibgblpbjdpaaa
open Go.ChangeShapes Go.WideShapes Go.ChangeAt Go.RowKit
set_option linter.unusedVariables false
set_option linter.unusedSimpArgs false
theorem c09_wcl (n : Int) : c09 n (-10000000) 10000000 = wcl n := by unfold c09 wcl; omega
set_option maxRecDepth 100000 in
set_option maxHeartbeats 8000000 in
theorem rwclip_any (n : Int) (w : World) : Calls Try.prog 34 #[.int .i64 n] w fun e w' => e = .returned (.int .i64 (wcl n)) ∧ w = w' := by
  have C := Lib.hid (fun u => c09_any n (-10000000) 10000000 (by omega) u)
  rw [c09_wcl] at C
  go_enter Try.func34, Try.ntmps34
  go_wp2_with fail
  refine (C.out _).mono ?_
  rintro e w1 ⟨rfl, rfl⟩
  go_wp2
  go_ret
  exact ⟨rfl, rfl⟩
theorem sqc_id {n : Int} (h : -1099511627775 ≤ n ∧ n ≤ 1099511627775) : sqc n = n * n := by
  have e : clp n = n := by unfold clp; omega
  unfold sqc
  rw [e]
  unfold absI
  split
  · exact Int.neg_mul_neg ..
  · rfl
set_option maxRecDepth 100000 in
set_option maxHeartbeats 8000000 in
theorem rhyp20 (a b : Int) (w : World) (ha : -100000000 ≤ a ∧ a ≤ 100000000) (hb : -100000000 ≤ b ∧ b ≤ 100000000) : Calls Try.prog 33 #[.int .i64 a, .int .i64 b] w fun e w' => e = .returned (.int .i64 (rt (sqc a + sqc b))) ∧ w = w' := by
  rw [sqc_id ⟨by omega, by omega⟩, sqc_id ⟨by omega, by omega⟩]
  have pa := tsq_nn a
  have pb := tsq_nn b
  have qa : a * a ≤ 10000000000000000 := by
    have := tsq_le (a := a) (b := if 0 ≤ a then 100000000 else -100000000) ⟨fun q => by split at q <;> split <;> omega, fun q => by split at q <;> split <;> omega⟩
    split at this <;> omega
  have qb : b * b ≤ 10000000000000000 := by
    have := tsq_le (a := b) (b := if 0 ≤ b then 100000000 else -100000000) ⟨fun q => by split at q <;> split <;> omega, fun q => by split at q <;> split <;> omega⟩
    split at this <;> omega
  obtain ⟨p, ep⟩ : ∃ p, p = a * a := ⟨_, rfl⟩
  obtain ⟨q, eq⟩ : ∃ q, q = b * b := ⟨_, rfl⟩
  rw [← ep] at pa qa
  rw [← eq] at pb qb
  have w1 : IntKind.i64.wrap (a * a) = p := by rw [← ep, IntKind.wrap_i64]; omega
  have w2 : IntKind.i64.wrap (b * b) = q := by rw [← eq, IntKind.wrap_i64]; omega
  have w3 : IntKind.i64.wrap (p + q) = p + q := by rw [IntKind.wrap_i64]; omega
  rw [← ep, ← eq]
  have SQ := Lib.hid (fun u => rsqrt_at (p + q) u (by omega) (by omega))
  generalize rt (p + q) = R at *
  clear pa pb qa qb ep eq
  go_enter Try.func33, Try.ntmps33
  go_wp2_with fail
  refine (SQ.out _).mono ?_
  rintro e w1 ⟨rfl, rfl⟩
  go_wp2
  go_ret
  exact ⟨rfl, rfl⟩
/-- The document's steps, a flow and another block of a law's function. -/
structure ThS (q r g1 o1 g2 o2 : Nat) (F R : List Value) (w u : World) : Prop where
  f : Held q F u
  z : Held r R u
  st : StT g1 o1 g2 o2 u
  b : Below w.heap.size w u
theorem ThS.bel {q r g1 o1 g2 o2 : Nat} {F R : List Value} {w u u' : World} (h : ThS q r g1 o1 g2 o2 F R w u) (k : Below u.heap.size u u') : ThS q r g1 o1 g2 o2 F R w u' := ⟨h.f.bel k, h.z.bel k, h.st.bel k, h.b.trans (k.mono h.b.size)⟩
theorem ThS.aside {q r g1 o1 g2 o2 s : Nat} {F R : List Value} {w u u' : World} (h : ThS q r g1 o1 g2 o2 F R w u) (k : Only s u u') (n : q ≠ s ∧ r ≠ s ∧ g1 ≠ s ∧ g2 ≠ s ∧ w.heap.size ≤ s) : ThS q r g1 o1 g2 o2 F R w u' := ⟨h.f.only k n.1, h.z.only k n.2.1, h.st.beside (.of_only k) n.2.2.1 n.2.2.2.1, h.b.trans (k.below n.2.2.2.2)⟩
theorem ThS.drew {q r g1 o1 g2 o2 : Nat} {F R : List Value} {w u : World} (h : ThS q r g1 o1 g2 o2 F R w u) : ThS q r g1 o1 g2 o2 F R w u.drew := h.bel (Below.refl _ _).drew
set_option maxRecDepth 100000 in
set_option maxHeartbeats 8000000 in
theorem rthrough (g1 o1 c1 g2 o2 c2 a : Nat) (t no ea : Int) (w : World) (hS : StT g1 o1 g2 o2 w) (ha : a < 65536) : Calls Try.prog 31 #[.slice (some ⟨g1, o1, none⟩) 14 c1, .slice (some ⟨g2, o2, none⟩) 14 c2, .agg #[.int .i64 t, .int .u16 (a : Int), .int .i64 no, .int .i64 ea]] w fun e w' => e = .returned (.agg #[.int .i64 (wdN a t no), .int .i64 (wdE a t ea)]) ∧ Below w.heap.size w w' := by
  have CL := Lib.hid (fun n u => rwclip_any n u)
  have PT := fun u (m : StT g1 o1 g2 o2 u) => rpoint04 g1 o1 c1 g2 o2 c2 a (wcl t) u m ha
  rw [(wd_tr a t).1, (wd_tr a t).2] at PT
  have bN := (wd_bd a t no).1
  have bE := (wd_bd a t ea).2
  have eN := Lib.hid (show wdN a t no = wcl no - tdO ((atP a).1 * wcl t) from rfl)
  have eE := Lib.hid (show wdE a t ea = wcl ea - tdO ((atP a).2 * wcl t) from rfl)
  generalize tdO ((atP a).1 * wcl t) = x at *
  generalize tdO ((atP a).2 * wcl t) = y at *
  generalize wdN a t no = N at *
  generalize wdE a t ea = E at *
  have wN : IntKind.i64.wrap (wcl no - x) = N := by rw [← eN.out, IntKind.wrap_i64]; omega
  have wE : IntKind.i64.wrap (wcl ea - y) = E := by rw [← eE.out, IntKind.wrap_i64]; omega
  have w7 : IntKind.i64.wrap (a : Int) = (a : Int) := by rw [IntKind.wrap_i64]; omega
  clear bN bE eN eE
  have CT := Lib.hid (fun u => CL.out t u)
  have CN := Lib.hid (fun u => CL.out no u)
  have CE := Lib.hid (fun u => CL.out ea u)
  clear CL
  generalize wcl no = c1z at *
  generalize wcl ea = c2z at *
  generalize wcl t = c3z at *
  replace PT := Lib.hid PT
  obtain ⟨V, eV, hT⟩ : ∃ V, V = (w.alloc (.cells #[.int .i64 t, .int .u16 (a : Int), .int .i64 no, .int .i64 ea] 58)).alloc (.cells #[.int .i64 0, .int .i64 0] 48) ∧ ThS w.heap.size (w.heap.size + 1) g1 o1 g2 o2 [.int .i64 t, .int .u16 (a : Int), .int .i64 no, .int .i64 ea] [.int .i64 0, .int .i64 0] w V := ⟨_, rfl, (Held.new w [.int .i64 t, .int .u16 (a : Int), .int .i64 no, .int .i64 ea] _).bel (by repeat (first | exact Below.refl _ _ | assumption | apply Below.drew | apply below_drewN | (refine Below.alloc ?_ (by first | exact Nat.le_refl _ | omega | (simp <;> omega)) _) | (refine Below.setCell ?_ (by first | exact Nat.le_refl _ | omega | (simp <;> omega)) _))), by have := Held.new (w.alloc (.cells #[.int .i64 t, .int .u16 (a : Int), .int .i64 no, .int .i64 ea] 58)) [.int .i64 0, .int .i64 0] 48; simpa using this, hS.bel (by repeat (first | exact Below.refl _ _ | assumption | apply Below.drew | apply below_drewN | (refine Below.alloc ?_ (by first | exact Nat.le_refl _ | omega | (simp <;> omega)) _) | (refine Below.setCell ?_ (by first | exact Nat.le_refl _ | omega | (simp <;> omega)) _))), (by repeat (first | exact Below.refl _ _ | assumption | apply Below.drew | apply below_drewN | (refine Below.alloc ?_ (by first | exact Nat.le_refl _ | omega | (simp <;> omega)) _) | (refine Below.setCell ?_ (by first | exact Nat.le_refl _ | omega | (simp <;> omega)) _)))⟩
  replace hT := Lib.hid hT
  have hqr := Lib.hid (show w.heap.size ≠ w.heap.size + 1 by omega)
  have hrn := Lib.hid (show w.heap.size ≤ w.heap.size + 1 by omega)
  clear hS
  go_enter Try.func31, Try.ntmps31
  go_upto_region 1 with (fail)
  rw [← eV]
  clear eV
  generalize w.heap.size + 1 = r at *
  obtain ⟨q, eq⟩ : ∃ q, q = w.heap.size := ⟨_, rfl⟩
  rw [← eq] at hT hqr ⊢
  replace eq := Lib.hid eq
  obtain ⟨k0, _⟩ := hT.out.f.one 0 rfl
  obtain ⟨k1, _⟩ := hT.out.f.one 1 rfl
  go_wp2_with fail
  refine region_tree (fun u => u.cell? ⟨q, 1, none⟩ = some (.int .u16 (a : Int)) ∧ u.cell? ⟨q, 0, none⟩ = some (.int .i64 t)) [(10, [(9, 10), (8, 10), (0, 10), (1, 10), (2, 10), (3, 10), (4, 10), (5, 10), (6, 10), (7, 10)])] (.free 0 (.free 1 (.free 2 (.take 3 (.free 4 (.free 5 (.take 6 (.fork 7 (.fork 8 (.step 9 (.late 10 .fin)) 9 (.step 8 (.late 10 .fin))) 9 (.step 7 (.step 8 (.late 10 .fin))))))))))) (by kernel_rfl) (by kernel_rfl) (by kernel_rfl) (by kernel_rfl) (by decide) (fun _ _ _ _ _ h => h) ?_
  first
    | (refine mt_free _ rfl ?_ (Or.inl ⟨by rfl, ?_⟩) (⟨k1, k0⟩) ?_
       rotate_left 1
       · intro u
         go_simp
         try with_reducible rfl
       simp only [Act.put, List.setIfInBounds_toArray, List.set_cons_zero, List.set_cons_succ])
    | (refine mt_free _ rfl _ (Or.inr ⟨by rfl, rfl⟩) (⟨k1, k0⟩) ?_
       simp only [Act.put, List.setIfInBounds_toArray, List.set_cons_zero, List.set_cons_succ])
  first
    | (refine mt_free _ rfl ?_ (Or.inl ⟨by rfl, ?_⟩) (⟨k1, k0⟩) ?_
       rotate_left 1
       · intro u
         go_simp
         try with_reducible rfl
       simp only [Act.put, List.setIfInBounds_toArray, List.set_cons_zero, List.set_cons_succ])
    | (refine mt_free _ rfl _ (Or.inr ⟨by rfl, rfl⟩) (⟨k1, k0⟩) ?_
       simp only [Act.put, List.setIfInBounds_toArray, List.set_cons_zero, List.set_cons_succ])
  first
    | (refine mt_free _ rfl ?_ (Or.inl ⟨by rfl, ?_⟩) (⟨k1, k0⟩) ?_
       rotate_left 1
       · intro u
         go_simp
         try with_reducible rfl
       simp only [Act.put, List.setIfInBounds_toArray, List.set_cons_zero, List.set_cons_succ])
    | (refine mt_free _ rfl _ (Or.inr ⟨by rfl, rfl⟩) (⟨k1, k0⟩) ?_
       simp only [Act.put, List.setIfInBounds_toArray, List.set_cons_zero, List.set_cons_succ])
  first
    | (refine mt_take _ rfl ?_ (Or.inl ⟨by rfl, ?_⟩) (⟨k1, k0⟩) ?_
       rotate_left 1
       · intro u hu
         (try dsimp only at hu)
         go_simp
         try with_reducible rfl
       simp only [Act.put, List.setIfInBounds_toArray, List.set_cons_zero, List.set_cons_succ])
    | (refine mt_take _ rfl _ (Or.inr ⟨by rfl, rfl⟩) (⟨k1, k0⟩) ?_
       simp only [Act.put, List.setIfInBounds_toArray, List.set_cons_zero, List.set_cons_succ])
  first
    | (refine mt_free _ rfl ?_ (Or.inl ⟨by rfl, ?_⟩) (⟨k1, k0⟩) ?_
       rotate_left 1
       · intro u
         go_simp
         try with_reducible rfl
       simp only [Act.put, List.setIfInBounds_toArray, List.set_cons_zero, List.set_cons_succ])
    | (refine mt_free _ rfl _ (Or.inr ⟨by rfl, rfl⟩) (⟨k1, k0⟩) ?_
       simp only [Act.put, List.setIfInBounds_toArray, List.set_cons_zero, List.set_cons_succ])
  first
    | (refine mt_free _ rfl ?_ (Or.inl ⟨by rfl, ?_⟩) (⟨k1, k0⟩) ?_
       rotate_left 1
       · intro u
         go_simp
         try with_reducible rfl
       simp only [Act.put, List.setIfInBounds_toArray, List.set_cons_zero, List.set_cons_succ])
    | (refine mt_free _ rfl _ (Or.inr ⟨by rfl, rfl⟩) (⟨k1, k0⟩) ?_
       simp only [Act.put, List.setIfInBounds_toArray, List.set_cons_zero, List.set_cons_succ])
  first
    | (refine mt_take _ rfl ?_ (Or.inl ⟨by rfl, ?_⟩) (⟨k1, k0⟩) ?_
       rotate_left 1
       · intro u hu
         (try dsimp only at hu)
         go_simp
         try with_reducible rfl
       simp only [Act.put, List.setIfInBounds_toArray, List.set_cons_zero, List.set_cons_succ])
    | (refine mt_take _ rfl _ (Or.inr ⟨by rfl, rfl⟩) (⟨k1, k0⟩) ?_
       simp only [Act.put, List.setIfInBounds_toArray, List.set_cons_zero, List.set_cons_succ])
  refine mt_fork _ _ rfl rfl ?_ ?_
  · skip
    intro K hK
    go_simp
    refine (CT.out _).mono ?_
    rintro e wq ⟨rfl, rfl⟩
    go_wp2_with fail
    refine hK.out _ _ _ (fun u hu => hu) (⟨k1, k0⟩) ?_
    clear hK K
    refine mt_fork _ _ rfl rfl ?_ ?_
    · skip
      intro K hK
      go_simp
      refine (PT.out _ (by first | exact hT.out.st | exact hT.out.drew.st)).mono ?_
      rintro e w2 ⟨rfl, hb2⟩
      replace hT := Lib.hid (show ThS q r g1 o1 g2 o2 [.int .i64 t, .int .u16 (a : Int), .int .i64 no, .int .i64 ea] [.int .i64 0, .int .i64 0] w w2 from by first | exact hT.out.bel hb2 | exact hT.out.drew.bel hb2)
      clear hb2 k0 k1
      obtain ⟨k0, _⟩ := hT.out.f.one 0 rfl
      obtain ⟨k1, _⟩ := hT.out.f.one 1 rfl
      go_wp2_with fail
      refine hK.out _ _ _ (fun u hu => hu) (⟨k1, k0⟩) ?_
      clear hK K
      refine mt_step _ rfl ?_
      intro K hK
      go_simp
      obtain ⟨w4, eA, hbA, hP⟩ : ∃ x, x = w2.alloc (.cells #[.int .i64 0, .int .i64 0] 48) ∧ Below w2.heap.size w2 x ∧ Held w2.heap.size [.int .i64 0, .int .i64 0] x := ⟨_, rfl, (by repeat (first | exact Below.refl _ _ | assumption | apply Below.drew | apply below_drewN | (refine Below.alloc ?_ (by first | exact Nat.le_refl _ | omega | (simp <;> omega)) _) | (refine Below.setCell ?_ (by first | exact Nat.le_refl _ | omega | (simp <;> omega)) _))), Held.new w2 [.int .i64 0, .int .i64 0] _⟩
      rw [← eA]
      obtain ⟨s, es⟩ : ∃ s, s = w2.heap.size := ⟨_, rfl⟩
      have hne := Lib.hid (show q ≠ s ∧ r ≠ s ∧ g1 ≠ s ∧ g2 ≠ s ∧ w.heap.size ≤ s from by have a1 := hT.out.f.lt; have a2 := hT.out.z.lt; have a3 := hT.out.st.l1; have a4 := hT.out.st.l2; have a5 := hT.out.b.size; omega)
      rw [← es] at hP ⊢
      replace es := Lib.hid es
      replace eA := Lib.hid eA
      replace hP := Lib.hid hP
      replace hT := Lib.hid (hT.out.bel hbA)
      clear hbA k0 k1
      obtain ⟨k0, _⟩ := hT.out.f.one 0 rfl
      obtain ⟨k1, _⟩ := hT.out.f.one 1 rfl
      refine hK.out _ _ _ (fun u hu => hu) (⟨k1, k0⟩) ?_
      clear hK K
      refine mt_late _ rfl ?_
      intro K hK
      obtain ⟨p0, f0⟩ := hP.out.one 0 rfl
      obtain ⟨p1, f1⟩ := hP.out.one 1 rfl
      go_simp
      refine hK.out (fun _ => True) _ _ ?_
      clear hK K
      refine mt_fin ?_
      obtain ⟨Z, eZ, hZ⟩ : ∃ Z, Z = (w4.setCell ⟨s, 0, none⟩ (.int .i64 x)).setCell ⟨s, 1, none⟩ (.int .i64 y) ∧ Only s w4 Z := ⟨_, rfl, ((Only.refl s w4).setCell (p := ⟨s, 0, none⟩) _).setCell (p := ⟨s, 1, none⟩) _⟩
      have hQ := Lib.hid (show Held s [.int .i64 x, .int .i64 y] Z from by rw [eZ]; exact (hP.out.set 0 _ (by simp)).set 1 _ (by simp))
      rw [← eZ]
      replace hT := Lib.hid (hT.out.aside hZ hne.out)
      clear eZ hZ hP p0 p1 f0 f1 k0 k1
      obtain ⟨s0, _⟩ := hQ.out.one 0 rfl
      obtain ⟨s1, _⟩ := hQ.out.one 1 rfl
      obtain ⟨k2, _⟩ := hT.out.f.one 2 rfl
      obtain ⟨k3, _⟩ := hT.out.f.one 3 rfl
      obtain ⟨z0, f0⟩ := hT.out.z.one 0 rfl
      obtain ⟨z1, f1⟩ := hT.out.z.one 1 rfl
      have bw := Lib.hid (show Below w.heap.size w (((Z.setCell ⟨r, 0, none⟩ (.int .i64 N)).setCell ⟨r, 1, none⟩ (.int .i64 E)).drew) from ((hT.out.b.setCell (p := ⟨r, 0, none⟩) hrn.out (.int .i64 N)).setCell (p := ⟨r, 1, none⟩) hrn.out (.int .i64 E)).drew)
      go_wp2_with fail
      refine region_moves (fun u => u.cell? ⟨q, 2, none⟩ = some (.int .i64 no) ∧ u.cell? ⟨q, 3, none⟩ = some (.int .i64 ea) ∧ u.cell? ⟨s, 0, none⟩ = some (.int .i64 x) ∧ u.cell? ⟨s, 1, none⟩ = some (.int .i64 y)) [(13, [(12, 13), (8, 13), (0, 13), (1, 13), (2, 13), (3, 13), (4, 13), (5, 13), (6, 13), (7, 13), (9, 13), (10, 13), (11, 13)])] [(.free, 0), (.take, 1), (.free, 3), (.take, 4), (.free, 6), (.take, 7), (.free, 9), (.take, 10), (.step, 2), (.free, 5), (.step, 8), (.free, 11), (.free, 12), (.late, 13)] _ (by kernel_rfl) (by kernel_rfl) (by kernel_rfl) (by kernel_rfl) (by decide) rfl (fun _ _ _ _ _ h => h) ?_
      simp only [List.filterMap_cons, List.filterMap_nil, List.getElem?_toArray, List.getElem?_cons_zero, List.getElem?_cons_succ, Option.map_some]
      iterate 1
        first
          | (refine mv_free ?_ (Or.inl ⟨by rfl, ?_⟩) (⟨k2, k3, s0, s1⟩) ?_
             rotate_left 1
             · intro u
               go_simp
               try simp only [d1]
               try simp only [d2]
               try simp only [d3]
               try with_reducible rfl
             simp only [Act.put, List.setIfInBounds_toArray, List.set_cons_zero, List.set_cons_succ])
          | (refine mv_free _ (Or.inr ⟨by rfl, rfl⟩) (⟨k2, k3, s0, s1⟩) ?_
             simp only [Act.put, List.setIfInBounds_toArray, List.set_cons_zero, List.set_cons_succ])
      iterate 1
        first
          | (refine mv_take ?_ (Or.inl ⟨by rfl, ?_⟩) (⟨k2, k3, s0, s1⟩) ?_
             rotate_left 1
             · intro u hu
               (try dsimp only at hu)
               go_simp
               try with_reducible rfl
             simp only [Act.put, List.setIfInBounds_toArray, List.set_cons_zero, List.set_cons_succ])
          | (refine mv_take _ (Or.inr ⟨by rfl, rfl⟩) (⟨k2, k3, s0, s1⟩) ?_
             simp only [Act.put, List.setIfInBounds_toArray, List.set_cons_zero, List.set_cons_succ])
      iterate 1
        first
          | (refine mv_free ?_ (Or.inl ⟨by rfl, ?_⟩) (⟨k2, k3, s0, s1⟩) ?_
             rotate_left 1
             · intro u
               go_simp
               try simp only [d1]
               try simp only [d2]
               try simp only [d3]
               try with_reducible rfl
             simp only [Act.put, List.setIfInBounds_toArray, List.set_cons_zero, List.set_cons_succ])
          | (refine mv_free _ (Or.inr ⟨by rfl, rfl⟩) (⟨k2, k3, s0, s1⟩) ?_
             simp only [Act.put, List.setIfInBounds_toArray, List.set_cons_zero, List.set_cons_succ])
      iterate 1
        first
          | (refine mv_take ?_ (Or.inl ⟨by rfl, ?_⟩) (⟨k2, k3, s0, s1⟩) ?_
             rotate_left 1
             · intro u hu
               (try dsimp only at hu)
               go_simp
               try with_reducible rfl
             simp only [Act.put, List.setIfInBounds_toArray, List.set_cons_zero, List.set_cons_succ])
          | (refine mv_take _ (Or.inr ⟨by rfl, rfl⟩) (⟨k2, k3, s0, s1⟩) ?_
             simp only [Act.put, List.setIfInBounds_toArray, List.set_cons_zero, List.set_cons_succ])
      iterate 1
        first
          | (refine mv_free ?_ (Or.inl ⟨by rfl, ?_⟩) (⟨k2, k3, s0, s1⟩) ?_
             rotate_left 1
             · intro u
               go_simp
               try simp only [d1]
               try simp only [d2]
               try simp only [d3]
               try with_reducible rfl
             simp only [Act.put, List.setIfInBounds_toArray, List.set_cons_zero, List.set_cons_succ])
          | (refine mv_free _ (Or.inr ⟨by rfl, rfl⟩) (⟨k2, k3, s0, s1⟩) ?_
             simp only [Act.put, List.setIfInBounds_toArray, List.set_cons_zero, List.set_cons_succ])
      iterate 1
        first
          | (refine mv_take ?_ (Or.inl ⟨by rfl, ?_⟩) (⟨k2, k3, s0, s1⟩) ?_
             rotate_left 1
             · intro u hu
               (try dsimp only at hu)
               go_simp
               try with_reducible rfl
             simp only [Act.put, List.setIfInBounds_toArray, List.set_cons_zero, List.set_cons_succ])
          | (refine mv_take _ (Or.inr ⟨by rfl, rfl⟩) (⟨k2, k3, s0, s1⟩) ?_
             simp only [Act.put, List.setIfInBounds_toArray, List.set_cons_zero, List.set_cons_succ])
      iterate 1
        first
          | (refine mv_free ?_ (Or.inl ⟨by rfl, ?_⟩) (⟨k2, k3, s0, s1⟩) ?_
             rotate_left 1
             · intro u
               go_simp
               try simp only [d1]
               try simp only [d2]
               try simp only [d3]
               try with_reducible rfl
             simp only [Act.put, List.setIfInBounds_toArray, List.set_cons_zero, List.set_cons_succ])
          | (refine mv_free _ (Or.inr ⟨by rfl, rfl⟩) (⟨k2, k3, s0, s1⟩) ?_
             simp only [Act.put, List.setIfInBounds_toArray, List.set_cons_zero, List.set_cons_succ])
      iterate 1
        first
          | (refine mv_take ?_ (Or.inl ⟨by rfl, ?_⟩) (⟨k2, k3, s0, s1⟩) ?_
             rotate_left 1
             · intro u hu
               (try dsimp only at hu)
               go_simp
               try with_reducible rfl
             simp only [Act.put, List.setIfInBounds_toArray, List.set_cons_zero, List.set_cons_succ])
          | (refine mv_take _ (Or.inr ⟨by rfl, rfl⟩) (⟨k2, k3, s0, s1⟩) ?_
             simp only [Act.put, List.setIfInBounds_toArray, List.set_cons_zero, List.set_cons_succ])
      refine mv_step (fun K hK => ?_)
      go_simp
      refine (CN.out _).mono ?_
      rintro e v3 ⟨rfl, rfl⟩
      go_wp2_with fail
      refine hK.out _ _ _ (fun u hu => hu) (⟨k2, k3, s0, s1⟩) ?_
      clear hK K
      iterate 1
        first
          | (refine mv_free ?_ (Or.inl ⟨by rfl, ?_⟩) (⟨k2, k3, s0, s1⟩) ?_
             rotate_left 1
             · intro u
               go_simp
               try simp only [d1]
               try simp only [d2]
               try simp only [d3]
               try with_reducible rfl
             simp only [Act.put, List.setIfInBounds_toArray, List.set_cons_zero, List.set_cons_succ])
          | (refine mv_free _ (Or.inr ⟨by rfl, rfl⟩) (⟨k2, k3, s0, s1⟩) ?_
             simp only [Act.put, List.setIfInBounds_toArray, List.set_cons_zero, List.set_cons_succ])
      refine mv_step (fun K hK => ?_)
      go_simp
      refine (CE.out _).mono ?_
      rintro e v3 ⟨rfl, rfl⟩
      go_wp2_with fail
      refine hK.out _ _ _ (fun u hu => hu) (⟨k2, k3, s0, s1⟩) ?_
      clear hK K
      iterate 2
        first
          | (refine mv_free ?_ (Or.inl ⟨by rfl, ?_⟩) (⟨k2, k3, s0, s1⟩) ?_
             rotate_left 1
             · intro u
               go_simp
               try simp only [d1]
               try simp only [d2]
               try simp only [d3]
               try with_reducible rfl
             simp only [Act.put, List.setIfInBounds_toArray, List.set_cons_zero, List.set_cons_succ])
          | (refine mv_free _ (Or.inr ⟨by rfl, rfl⟩) (⟨k2, k3, s0, s1⟩) ?_
             simp only [Act.put, List.setIfInBounds_toArray, List.set_cons_zero, List.set_cons_succ])
      refine mv_late (fun K hK => ?_)
      go_simp
      refine hK.out (fun _ => True) _ _ ?_
      clear hK K
      refine mv_done ?_
      go_wp2
      refine bodyPost_ret (v := .agg #[.int .i64 N, .int .i64 E]) (by simp [results, Try.results31, go_sem, z0, z1]) rfl ⟨rfl, by first | exact bw.out | exact bw.out.drew⟩
    · skip
      intro K hK
      go_simp
      obtain ⟨w4, eA, hbA, hP⟩ : ∃ x, x = (V.alloc (.cells #[.int .i64 0, .int .i64 0] 48)).drew ∧ Below V.heap.size V x ∧ Held V.heap.size [.int .i64 0, .int .i64 0] x := ⟨_, rfl, (by repeat (first | exact Below.refl _ _ | assumption | apply Below.drew | apply below_drewN | (refine Below.alloc ?_ (by first | exact Nat.le_refl _ | omega | (simp <;> omega)) _) | (refine Below.setCell ?_ (by first | exact Nat.le_refl _ | omega | (simp <;> omega)) _))), (Held.new V [.int .i64 0, .int .i64 0] _).drew⟩
      rw [← eA]
      obtain ⟨s, es⟩ : ∃ s, s = V.heap.size := ⟨_, rfl⟩
      have hne := Lib.hid (show q ≠ s ∧ r ≠ s ∧ g1 ≠ s ∧ g2 ≠ s ∧ w.heap.size ≤ s from by have a1 := hT.out.f.lt; have a2 := hT.out.z.lt; have a3 := hT.out.st.l1; have a4 := hT.out.st.l2; have a5 := hT.out.b.size; omega)
      rw [← es] at hP ⊢
      replace es := Lib.hid es
      replace eA := Lib.hid eA
      replace hP := Lib.hid hP
      replace hT := Lib.hid (hT.out.bel hbA)
      clear hbA k0 k1
      obtain ⟨k0, _⟩ := hT.out.f.one 0 rfl
      obtain ⟨k1, _⟩ := hT.out.f.one 1 rfl
      refine hK.out _ _ _ (fun u hu => hu) (⟨k1, k0⟩) ?_
      clear hK K
      refine mt_step _ rfl ?_
      intro K hK
      go_simp
      refine (PT.out _ (by first | exact hT.out.st | exact hT.out.drew.st)).mono ?_
      rintro e w5 ⟨rfl, hb5⟩
      replace hP := Lib.hid (show Held s [.int .i64 0, .int .i64 0] w5 from by first | exact hP.out.bel hb5 | exact hP.out.drew.bel hb5)
      replace hT := Lib.hid (show ThS q r g1 o1 g2 o2 [.int .i64 t, .int .u16 (a : Int), .int .i64 no, .int .i64 ea] [.int .i64 0, .int .i64 0] w w5 from by first | exact hT.out.bel hb5 | exact hT.out.drew.bel hb5)
      clear hb5 k0 k1
      obtain ⟨k0, _⟩ := hT.out.f.one 0 rfl
      obtain ⟨k1, _⟩ := hT.out.f.one 1 rfl
      go_wp2_with fail
      refine hK.out _ _ _ (fun u hu => hu) (⟨k1, k0⟩) ?_
      clear hK K
      refine mt_late _ rfl ?_
      intro K hK
      obtain ⟨p0, f0⟩ := hP.out.one 0 rfl
      obtain ⟨p1, f1⟩ := hP.out.one 1 rfl
      go_simp
      refine hK.out (fun _ => True) _ _ ?_
      clear hK K
      refine mt_fin ?_
      obtain ⟨Z, eZ, hZ⟩ : ∃ Z, Z = (w5.setCell ⟨s, 0, none⟩ (.int .i64 x)).setCell ⟨s, 1, none⟩ (.int .i64 y) ∧ Only s w5 Z := ⟨_, rfl, ((Only.refl s w5).setCell (p := ⟨s, 0, none⟩) _).setCell (p := ⟨s, 1, none⟩) _⟩
      have hQ := Lib.hid (show Held s [.int .i64 x, .int .i64 y] Z from by rw [eZ]; exact (hP.out.set 0 _ (by simp)).set 1 _ (by simp))
      rw [← eZ]
      replace hT := Lib.hid (hT.out.aside hZ hne.out)
      clear eZ hZ hP p0 p1 f0 f1 k0 k1
      obtain ⟨s0, _⟩ := hQ.out.one 0 rfl
      obtain ⟨s1, _⟩ := hQ.out.one 1 rfl
      obtain ⟨k2, _⟩ := hT.out.f.one 2 rfl
      obtain ⟨k3, _⟩ := hT.out.f.one 3 rfl
      obtain ⟨z0, f0⟩ := hT.out.z.one 0 rfl
      obtain ⟨z1, f1⟩ := hT.out.z.one 1 rfl
      have bw := Lib.hid (show Below w.heap.size w (((Z.setCell ⟨r, 0, none⟩ (.int .i64 N)).setCell ⟨r, 1, none⟩ (.int .i64 E)).drew) from ((hT.out.b.setCell (p := ⟨r, 0, none⟩) hrn.out (.int .i64 N)).setCell (p := ⟨r, 1, none⟩) hrn.out (.int .i64 E)).drew)
      go_wp2_with fail
      refine region_moves (fun u => u.cell? ⟨q, 2, none⟩ = some (.int .i64 no) ∧ u.cell? ⟨q, 3, none⟩ = some (.int .i64 ea) ∧ u.cell? ⟨s, 0, none⟩ = some (.int .i64 x) ∧ u.cell? ⟨s, 1, none⟩ = some (.int .i64 y)) [(13, [(12, 13), (8, 13), (0, 13), (1, 13), (2, 13), (3, 13), (4, 13), (5, 13), (6, 13), (7, 13), (9, 13), (10, 13), (11, 13)])] [(.free, 0), (.take, 1), (.free, 3), (.take, 4), (.free, 6), (.take, 7), (.free, 9), (.take, 10), (.step, 2), (.free, 5), (.step, 8), (.free, 11), (.free, 12), (.late, 13)] _ (by kernel_rfl) (by kernel_rfl) (by kernel_rfl) (by kernel_rfl) (by decide) rfl (fun _ _ _ _ _ h => h) ?_
      simp only [List.filterMap_cons, List.filterMap_nil, List.getElem?_toArray, List.getElem?_cons_zero, List.getElem?_cons_succ, Option.map_some]
      iterate 1
        first
          | (refine mv_free ?_ (Or.inl ⟨by rfl, ?_⟩) (⟨k2, k3, s0, s1⟩) ?_
             rotate_left 1
             · intro u
               go_simp
               try simp only [d1]
               try simp only [d2]
               try simp only [d3]
               try with_reducible rfl
             simp only [Act.put, List.setIfInBounds_toArray, List.set_cons_zero, List.set_cons_succ])
          | (refine mv_free _ (Or.inr ⟨by rfl, rfl⟩) (⟨k2, k3, s0, s1⟩) ?_
             simp only [Act.put, List.setIfInBounds_toArray, List.set_cons_zero, List.set_cons_succ])
      iterate 1
        first
          | (refine mv_take ?_ (Or.inl ⟨by rfl, ?_⟩) (⟨k2, k3, s0, s1⟩) ?_
             rotate_left 1
             · intro u hu
               (try dsimp only at hu)
               go_simp
               try with_reducible rfl
             simp only [Act.put, List.setIfInBounds_toArray, List.set_cons_zero, List.set_cons_succ])
          | (refine mv_take _ (Or.inr ⟨by rfl, rfl⟩) (⟨k2, k3, s0, s1⟩) ?_
             simp only [Act.put, List.setIfInBounds_toArray, List.set_cons_zero, List.set_cons_succ])
      iterate 1
        first
          | (refine mv_free ?_ (Or.inl ⟨by rfl, ?_⟩) (⟨k2, k3, s0, s1⟩) ?_
             rotate_left 1
             · intro u
               go_simp
               try simp only [d1]
               try simp only [d2]
               try simp only [d3]
               try with_reducible rfl
             simp only [Act.put, List.setIfInBounds_toArray, List.set_cons_zero, List.set_cons_succ])
          | (refine mv_free _ (Or.inr ⟨by rfl, rfl⟩) (⟨k2, k3, s0, s1⟩) ?_
             simp only [Act.put, List.setIfInBounds_toArray, List.set_cons_zero, List.set_cons_succ])
      iterate 1
        first
          | (refine mv_take ?_ (Or.inl ⟨by rfl, ?_⟩) (⟨k2, k3, s0, s1⟩) ?_
             rotate_left 1
             · intro u hu
               (try dsimp only at hu)
               go_simp
               try with_reducible rfl
             simp only [Act.put, List.setIfInBounds_toArray, List.set_cons_zero, List.set_cons_succ])
          | (refine mv_take _ (Or.inr ⟨by rfl, rfl⟩) (⟨k2, k3, s0, s1⟩) ?_
             simp only [Act.put, List.setIfInBounds_toArray, List.set_cons_zero, List.set_cons_succ])
      iterate 1
        first
          | (refine mv_free ?_ (Or.inl ⟨by rfl, ?_⟩) (⟨k2, k3, s0, s1⟩) ?_
             rotate_left 1
             · intro u
               go_simp
               try simp only [d1]
               try simp only [d2]
               try simp only [d3]
               try with_reducible rfl
             simp only [Act.put, List.setIfInBounds_toArray, List.set_cons_zero, List.set_cons_succ])
          | (refine mv_free _ (Or.inr ⟨by rfl, rfl⟩) (⟨k2, k3, s0, s1⟩) ?_
             simp only [Act.put, List.setIfInBounds_toArray, List.set_cons_zero, List.set_cons_succ])
      iterate 1
        first
          | (refine mv_take ?_ (Or.inl ⟨by rfl, ?_⟩) (⟨k2, k3, s0, s1⟩) ?_
             rotate_left 1
             · intro u hu
               (try dsimp only at hu)
               go_simp
               try with_reducible rfl
             simp only [Act.put, List.setIfInBounds_toArray, List.set_cons_zero, List.set_cons_succ])
          | (refine mv_take _ (Or.inr ⟨by rfl, rfl⟩) (⟨k2, k3, s0, s1⟩) ?_
             simp only [Act.put, List.setIfInBounds_toArray, List.set_cons_zero, List.set_cons_succ])
      iterate 1
        first
          | (refine mv_free ?_ (Or.inl ⟨by rfl, ?_⟩) (⟨k2, k3, s0, s1⟩) ?_
             rotate_left 1
             · intro u
               go_simp
               try simp only [d1]
               try simp only [d2]
               try simp only [d3]
               try with_reducible rfl
             simp only [Act.put, List.setIfInBounds_toArray, List.set_cons_zero, List.set_cons_succ])
          | (refine mv_free _ (Or.inr ⟨by rfl, rfl⟩) (⟨k2, k3, s0, s1⟩) ?_
             simp only [Act.put, List.setIfInBounds_toArray, List.set_cons_zero, List.set_cons_succ])
      iterate 1
        first
          | (refine mv_take ?_ (Or.inl ⟨by rfl, ?_⟩) (⟨k2, k3, s0, s1⟩) ?_
             rotate_left 1
             · intro u hu
               (try dsimp only at hu)
               go_simp
               try with_reducible rfl
             simp only [Act.put, List.setIfInBounds_toArray, List.set_cons_zero, List.set_cons_succ])
          | (refine mv_take _ (Or.inr ⟨by rfl, rfl⟩) (⟨k2, k3, s0, s1⟩) ?_
             simp only [Act.put, List.setIfInBounds_toArray, List.set_cons_zero, List.set_cons_succ])
      refine mv_step (fun K hK => ?_)
      go_simp
      refine (CN.out _).mono ?_
      rintro e v3 ⟨rfl, rfl⟩
      go_wp2_with fail
      refine hK.out _ _ _ (fun u hu => hu) (⟨k2, k3, s0, s1⟩) ?_
      clear hK K
      iterate 1
        first
          | (refine mv_free ?_ (Or.inl ⟨by rfl, ?_⟩) (⟨k2, k3, s0, s1⟩) ?_
             rotate_left 1
             · intro u
               go_simp
               try simp only [d1]
               try simp only [d2]
               try simp only [d3]
               try with_reducible rfl
             simp only [Act.put, List.setIfInBounds_toArray, List.set_cons_zero, List.set_cons_succ])
          | (refine mv_free _ (Or.inr ⟨by rfl, rfl⟩) (⟨k2, k3, s0, s1⟩) ?_
             simp only [Act.put, List.setIfInBounds_toArray, List.set_cons_zero, List.set_cons_succ])
      refine mv_step (fun K hK => ?_)
      go_simp
      refine (CE.out _).mono ?_
      rintro e v3 ⟨rfl, rfl⟩
      go_wp2_with fail
      refine hK.out _ _ _ (fun u hu => hu) (⟨k2, k3, s0, s1⟩) ?_
      clear hK K
      iterate 2
        first
          | (refine mv_free ?_ (Or.inl ⟨by rfl, ?_⟩) (⟨k2, k3, s0, s1⟩) ?_
             rotate_left 1
             · intro u
               go_simp
               try simp only [d1]
               try simp only [d2]
               try simp only [d3]
               try with_reducible rfl
             simp only [Act.put, List.setIfInBounds_toArray, List.set_cons_zero, List.set_cons_succ])
          | (refine mv_free _ (Or.inr ⟨by rfl, rfl⟩) (⟨k2, k3, s0, s1⟩) ?_
             simp only [Act.put, List.setIfInBounds_toArray, List.set_cons_zero, List.set_cons_succ])
      refine mv_late (fun K hK => ?_)
      go_simp
      refine hK.out (fun _ => True) _ _ ?_
      clear hK K
      refine mv_done ?_
      go_wp2
      refine bodyPost_ret (v := .agg #[.int .i64 N, .int .i64 E]) (by simp [results, Try.results31, go_sem, z0, z1]) rfl ⟨rfl, by first | exact bw.out | exact bw.out.drew⟩
  · skip
    intro K hK
    go_simp
    obtain ⟨w4, eA, hbA, hP⟩ : ∃ x, x = (V.alloc (.cells #[.int .i64 0, .int .i64 0] 48)).drew ∧ Below V.heap.size V x ∧ Held V.heap.size [.int .i64 0, .int .i64 0] x := ⟨_, rfl, (by repeat (first | exact Below.refl _ _ | assumption | apply Below.drew | apply below_drewN | (refine Below.alloc ?_ (by first | exact Nat.le_refl _ | omega | (simp <;> omega)) _) | (refine Below.setCell ?_ (by first | exact Nat.le_refl _ | omega | (simp <;> omega)) _))), (Held.new V [.int .i64 0, .int .i64 0] _).drew⟩
    rw [← eA]
    obtain ⟨s, es⟩ : ∃ s, s = V.heap.size := ⟨_, rfl⟩
    have hne := Lib.hid (show q ≠ s ∧ r ≠ s ∧ g1 ≠ s ∧ g2 ≠ s ∧ w.heap.size ≤ s from by have a1 := hT.out.f.lt; have a2 := hT.out.z.lt; have a3 := hT.out.st.l1; have a4 := hT.out.st.l2; have a5 := hT.out.b.size; omega)
    rw [← es] at hP ⊢
    replace es := Lib.hid es
    replace eA := Lib.hid eA
    replace hP := Lib.hid hP
    replace hT := Lib.hid (hT.out.bel hbA)
    clear hbA k0 k1
    obtain ⟨k0, _⟩ := hT.out.f.one 0 rfl
    obtain ⟨k1, _⟩ := hT.out.f.one 1 rfl
    refine hK.out _ _ _ (fun u hu => hu) (⟨k1, k0⟩) ?_
    clear hK K
    refine mt_step _ rfl ?_
    intro K hK
    go_simp
    refine (CT.out _).mono ?_
    rintro e wq ⟨rfl, rfl⟩
    go_wp2_with fail
    refine hK.out _ _ _ (fun u hu => hu) (⟨k1, k0⟩) ?_
    clear hK K
    refine mt_step _ rfl ?_
    intro K hK
    go_simp
    refine (PT.out _ (by first | exact hT.out.st | exact hT.out.drew.st)).mono ?_
    rintro e w5 ⟨rfl, hb5⟩
    replace hP := Lib.hid (show Held s [.int .i64 0, .int .i64 0] w5 from by first | exact hP.out.bel hb5 | exact hP.out.drew.bel hb5)
    replace hT := Lib.hid (show ThS q r g1 o1 g2 o2 [.int .i64 t, .int .u16 (a : Int), .int .i64 no, .int .i64 ea] [.int .i64 0, .int .i64 0] w w5 from by first | exact hT.out.bel hb5 | exact hT.out.drew.bel hb5)
    clear hb5 k0 k1
    obtain ⟨k0, _⟩ := hT.out.f.one 0 rfl
    obtain ⟨k1, _⟩ := hT.out.f.one 1 rfl
    go_wp2_with fail
    refine hK.out _ _ _ (fun u hu => hu) (⟨k1, k0⟩) ?_
    clear hK K
    refine mt_late _ rfl ?_
    intro K hK
    obtain ⟨p0, f0⟩ := hP.out.one 0 rfl
    obtain ⟨p1, f1⟩ := hP.out.one 1 rfl
    go_simp
    refine hK.out (fun _ => True) _ _ ?_
    clear hK K
    refine mt_fin ?_
    obtain ⟨Z, eZ, hZ⟩ : ∃ Z, Z = (w5.setCell ⟨s, 0, none⟩ (.int .i64 x)).setCell ⟨s, 1, none⟩ (.int .i64 y) ∧ Only s w5 Z := ⟨_, rfl, ((Only.refl s w5).setCell (p := ⟨s, 0, none⟩) _).setCell (p := ⟨s, 1, none⟩) _⟩
    have hQ := Lib.hid (show Held s [.int .i64 x, .int .i64 y] Z from by rw [eZ]; exact (hP.out.set 0 _ (by simp)).set 1 _ (by simp))
    rw [← eZ]
    replace hT := Lib.hid (hT.out.aside hZ hne.out)
    clear eZ hZ hP p0 p1 f0 f1 k0 k1
    obtain ⟨s0, _⟩ := hQ.out.one 0 rfl
    obtain ⟨s1, _⟩ := hQ.out.one 1 rfl
    obtain ⟨k2, _⟩ := hT.out.f.one 2 rfl
    obtain ⟨k3, _⟩ := hT.out.f.one 3 rfl
    obtain ⟨z0, f0⟩ := hT.out.z.one 0 rfl
    obtain ⟨z1, f1⟩ := hT.out.z.one 1 rfl
    have bw := Lib.hid (show Below w.heap.size w (((Z.setCell ⟨r, 0, none⟩ (.int .i64 N)).setCell ⟨r, 1, none⟩ (.int .i64 E)).drew) from ((hT.out.b.setCell (p := ⟨r, 0, none⟩) hrn.out (.int .i64 N)).setCell (p := ⟨r, 1, none⟩) hrn.out (.int .i64 E)).drew)
    go_wp2_with fail
    refine region_moves (fun u => u.cell? ⟨q, 2, none⟩ = some (.int .i64 no) ∧ u.cell? ⟨q, 3, none⟩ = some (.int .i64 ea) ∧ u.cell? ⟨s, 0, none⟩ = some (.int .i64 x) ∧ u.cell? ⟨s, 1, none⟩ = some (.int .i64 y)) [(13, [(12, 13), (8, 13), (0, 13), (1, 13), (2, 13), (3, 13), (4, 13), (5, 13), (6, 13), (7, 13), (9, 13), (10, 13), (11, 13)])] [(.free, 0), (.take, 1), (.free, 3), (.take, 4), (.free, 6), (.take, 7), (.free, 9), (.take, 10), (.step, 2), (.free, 5), (.step, 8), (.free, 11), (.free, 12), (.late, 13)] _ (by kernel_rfl) (by kernel_rfl) (by kernel_rfl) (by kernel_rfl) (by decide) rfl (fun _ _ _ _ _ h => h) ?_
    simp only [List.filterMap_cons, List.filterMap_nil, List.getElem?_toArray, List.getElem?_cons_zero, List.getElem?_cons_succ, Option.map_some]
    iterate 1
      first
        | (refine mv_free ?_ (Or.inl ⟨by rfl, ?_⟩) (⟨k2, k3, s0, s1⟩) ?_
           rotate_left 1
           · intro u
             go_simp
             try simp only [d1]
             try simp only [d2]
             try simp only [d3]
             try with_reducible rfl
           simp only [Act.put, List.setIfInBounds_toArray, List.set_cons_zero, List.set_cons_succ])
        | (refine mv_free _ (Or.inr ⟨by rfl, rfl⟩) (⟨k2, k3, s0, s1⟩) ?_
           simp only [Act.put, List.setIfInBounds_toArray, List.set_cons_zero, List.set_cons_succ])
    iterate 1
      first
        | (refine mv_take ?_ (Or.inl ⟨by rfl, ?_⟩) (⟨k2, k3, s0, s1⟩) ?_
           rotate_left 1
           · intro u hu
             (try dsimp only at hu)
             go_simp
             try with_reducible rfl
           simp only [Act.put, List.setIfInBounds_toArray, List.set_cons_zero, List.set_cons_succ])
        | (refine mv_take _ (Or.inr ⟨by rfl, rfl⟩) (⟨k2, k3, s0, s1⟩) ?_
           simp only [Act.put, List.setIfInBounds_toArray, List.set_cons_zero, List.set_cons_succ])
    iterate 1
      first
        | (refine mv_free ?_ (Or.inl ⟨by rfl, ?_⟩) (⟨k2, k3, s0, s1⟩) ?_
           rotate_left 1
           · intro u
             go_simp
             try simp only [d1]
             try simp only [d2]
             try simp only [d3]
             try with_reducible rfl
           simp only [Act.put, List.setIfInBounds_toArray, List.set_cons_zero, List.set_cons_succ])
        | (refine mv_free _ (Or.inr ⟨by rfl, rfl⟩) (⟨k2, k3, s0, s1⟩) ?_
           simp only [Act.put, List.setIfInBounds_toArray, List.set_cons_zero, List.set_cons_succ])
    iterate 1
      first
        | (refine mv_take ?_ (Or.inl ⟨by rfl, ?_⟩) (⟨k2, k3, s0, s1⟩) ?_
           rotate_left 1
           · intro u hu
             (try dsimp only at hu)
             go_simp
             try with_reducible rfl
           simp only [Act.put, List.setIfInBounds_toArray, List.set_cons_zero, List.set_cons_succ])
        | (refine mv_take _ (Or.inr ⟨by rfl, rfl⟩) (⟨k2, k3, s0, s1⟩) ?_
           simp only [Act.put, List.setIfInBounds_toArray, List.set_cons_zero, List.set_cons_succ])
    iterate 1
      first
        | (refine mv_free ?_ (Or.inl ⟨by rfl, ?_⟩) (⟨k2, k3, s0, s1⟩) ?_
           rotate_left 1
           · intro u
             go_simp
             try simp only [d1]
             try simp only [d2]
             try simp only [d3]
             try with_reducible rfl
           simp only [Act.put, List.setIfInBounds_toArray, List.set_cons_zero, List.set_cons_succ])
        | (refine mv_free _ (Or.inr ⟨by rfl, rfl⟩) (⟨k2, k3, s0, s1⟩) ?_
           simp only [Act.put, List.setIfInBounds_toArray, List.set_cons_zero, List.set_cons_succ])
    iterate 1
      first
        | (refine mv_take ?_ (Or.inl ⟨by rfl, ?_⟩) (⟨k2, k3, s0, s1⟩) ?_
           rotate_left 1
           · intro u hu
             (try dsimp only at hu)
             go_simp
             try with_reducible rfl
           simp only [Act.put, List.setIfInBounds_toArray, List.set_cons_zero, List.set_cons_succ])
        | (refine mv_take _ (Or.inr ⟨by rfl, rfl⟩) (⟨k2, k3, s0, s1⟩) ?_
           simp only [Act.put, List.setIfInBounds_toArray, List.set_cons_zero, List.set_cons_succ])
    iterate 1
      first
        | (refine mv_free ?_ (Or.inl ⟨by rfl, ?_⟩) (⟨k2, k3, s0, s1⟩) ?_
           rotate_left 1
           · intro u
             go_simp
             try simp only [d1]
             try simp only [d2]
             try simp only [d3]
             try with_reducible rfl
           simp only [Act.put, List.setIfInBounds_toArray, List.set_cons_zero, List.set_cons_succ])
        | (refine mv_free _ (Or.inr ⟨by rfl, rfl⟩) (⟨k2, k3, s0, s1⟩) ?_
           simp only [Act.put, List.setIfInBounds_toArray, List.set_cons_zero, List.set_cons_succ])
    iterate 1
      first
        | (refine mv_take ?_ (Or.inl ⟨by rfl, ?_⟩) (⟨k2, k3, s0, s1⟩) ?_
           rotate_left 1
           · intro u hu
             (try dsimp only at hu)
             go_simp
             try with_reducible rfl
           simp only [Act.put, List.setIfInBounds_toArray, List.set_cons_zero, List.set_cons_succ])
        | (refine mv_take _ (Or.inr ⟨by rfl, rfl⟩) (⟨k2, k3, s0, s1⟩) ?_
           simp only [Act.put, List.setIfInBounds_toArray, List.set_cons_zero, List.set_cons_succ])
    refine mv_step (fun K hK => ?_)
    go_simp
    refine (CN.out _).mono ?_
    rintro e v3 ⟨rfl, rfl⟩
    go_wp2_with fail
    refine hK.out _ _ _ (fun u hu => hu) (⟨k2, k3, s0, s1⟩) ?_
    clear hK K
    iterate 1
      first
        | (refine mv_free ?_ (Or.inl ⟨by rfl, ?_⟩) (⟨k2, k3, s0, s1⟩) ?_
           rotate_left 1
           · intro u
             go_simp
             try simp only [d1]
             try simp only [d2]
             try simp only [d3]
             try with_reducible rfl
           simp only [Act.put, List.setIfInBounds_toArray, List.set_cons_zero, List.set_cons_succ])
        | (refine mv_free _ (Or.inr ⟨by rfl, rfl⟩) (⟨k2, k3, s0, s1⟩) ?_
           simp only [Act.put, List.setIfInBounds_toArray, List.set_cons_zero, List.set_cons_succ])
    refine mv_step (fun K hK => ?_)
    go_simp
    refine (CE.out _).mono ?_
    rintro e v3 ⟨rfl, rfl⟩
    go_wp2_with fail
    refine hK.out _ _ _ (fun u hu => hu) (⟨k2, k3, s0, s1⟩) ?_
    clear hK K
    iterate 2
      first
        | (refine mv_free ?_ (Or.inl ⟨by rfl, ?_⟩) (⟨k2, k3, s0, s1⟩) ?_
           rotate_left 1
           · intro u
             go_simp
             try simp only [d1]
             try simp only [d2]
             try simp only [d3]
             try with_reducible rfl
           simp only [Act.put, List.setIfInBounds_toArray, List.set_cons_zero, List.set_cons_succ])
        | (refine mv_free _ (Or.inr ⟨by rfl, rfl⟩) (⟨k2, k3, s0, s1⟩) ?_
           simp only [Act.put, List.setIfInBounds_toArray, List.set_cons_zero, List.set_cons_succ])
    refine mv_late (fun K hK => ?_)
    go_simp
    refine hK.out (fun _ => True) _ _ ?_
    clear hK K
    refine mv_done ?_
    go_wp2
    refine bodyPost_ret (v := .agg #[.int .i64 N, .int .i64 E]) (by simp [results, Try.results31, go_sem, z0, z1]) rfl ⟨rfl, by first | exact bw.out | exact bw.out.drew⟩
end Go.Proofs.Ytiibgblpbjdpaaa
