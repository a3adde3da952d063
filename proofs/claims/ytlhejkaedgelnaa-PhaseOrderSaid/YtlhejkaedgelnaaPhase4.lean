/- A follower's step; walked. -/
import Derived.Test.YtlhejkaedgelnaaPhase3
namespace Go.Proofs.Ytlhejkaedgelnaa
open Go.ChangeShapes Go.WideShapes Go.ChangeAt Go.RowKit
set_option linter.unusedVariables false
set_option linter.unusedSimpArgs false
theorem pins_any (b : Nat) {pt : Int} {S : PhS} (j : Int) (w : World) (k : Held b (phC pt S) w) (hn : 0 ≤ S.n ∧ S.n ≤ 2000) : Calls Try.prog 86 #[.pointer (some ⟨b, 0, none⟩), .int .i64 j] w fun e w' => e = .returned (.bool (phG pt S j)) ∧ Held b (phC pt ⟨S.p, j, phN S j, S.T, S.hv, S.hk, S.lg⟩) w' ∧ Beside b w w' := by
  obtain ⟨p, a, n, T, hv, hk, lg⟩ := S
  by_cases hp : j = p
  · have := pins_same b j w k hp hn
    rw [show phG pt ⟨p, a, n, T, hv, hk, lg⟩ j = false by simp [phG, hp], show phN ⟨p, a, n, T, hv, hk, lg⟩ j = 0 by simp [phN, hp]]
    exact this
  · by_cases ha : j = a
    · have := pins_on b j w k hp ha hn
      rw [show phN ⟨p, a, n, T, hv, hk, lg⟩ j = n + 1 by simp only [phN]; rw [if_neg hp, if_pos ha], show phG pt ⟨p, a, n, T, hv, hk, lg⟩ j = (phQ p j || decide (pt ≤ n + 1)) by simp only [phG, phN]; rw [if_neg hp, if_pos ha, Bool.eq_iff_iff]; simp [hp]]
      exact this
    · have := pins_new b j w k hp ha hn
      rw [show phN ⟨p, a, n, T, hv, hk, lg⟩ j = 1 by simp only [phN]; rw [if_neg hp, if_neg ha], show phG pt ⟨p, a, n, T, hv, hk, lg⟩ j = (phQ p j || decide (pt ≤ 1)) by simp only [phG, phN]; rw [if_neg hp, if_neg ha, Bool.eq_iff_iff]; simp [hp]]
      exact this
theorem phZ_is {pt : Int} {S : PhS} {k h : Int} {q : Nat} {n2 lg2 hv2 : Int} {hk2 : Bool} (h1 : phP pt S k = (q : Int)) (h2 : (if phG pt S k = true then 0 else phN S k) = n2) (h3 : (if (q : Int) = 0 then S.hv else if S.hk = true ∧ h ≤ S.hv then S.hv else h) = hv2) (h4 : (S.hk || decide ((q : Int) ≠ 0)) = hk2) (h5 : (if phG pt S k = true ∧ S.p = 5 ∧ k = 0 then S.lg + 1 else S.lg) = lg2) :
    phZ pt S k h = ⟨q, k, n2, upd S.T q (S.T q + 1), hv2, hk2, lg2⟩ := by
  unfold phZ
  rw [h1, h2, h3, h4, h5]
  simp
theorem pst_box (w : World) (c h r : Int) : ∃ V, V = (w.alloc (.cells #[.int .i64 c, .int .i64 h, .int .i64 r] 88)) ∧ Below w.heap.size w V ∧ V.heap.size = w.heap.size + 1 ∧ ∀ u, Below (w.heap.size + 1) V u → u.cell? ⟨w.heap.size, 0, none⟩ = some (.int .i64 c) ∧ u.cell? ⟨w.heap.size, 1, none⟩ = some (.int .i64 h) ∧ u.cell? ⟨w.heap.size, 2, none⟩ = some (.int .i64 r) :=
  ⟨_, rfl, (by repeat (first | exact Below.refl _ _ | assumption | apply Below.drew | apply below_drewN | (refine Below.alloc ?_ (by first | exact Nat.le_refl _ | omega | (simp <;> omega)) _) | (refine Below.setCell ?_ (by first | exact Nat.le_refl _ | omega | (simp <;> omega)) _))), by simp, fun u hu => ⟨(bc hu (by omega)).trans (by go_simp), (bc hu (by omega)).trans (by go_simp), (bc hu (by omega)).trans (by go_simp)⟩⟩
set_option maxRecDepth 100000 in
set_option maxHeartbeats 8000000 in
theorem pstep (b : Nat) {pt m : Int} {S : PhS} (c h r : Int) (w : World) (k : Held b (phC pt S) w) (ok : PhOk pt m S) (hm : m ≤ 1000000) : Calls Try.prog 54 #[.pointer (some ⟨b, 0, none⟩), .agg #[.int .i64 c, .int .i64 h, .int .i64 r]] w fun e w' => e = .returned (.int .i64 (phStep pt S c h r).p) ∧ Held b (phC pt (phStep pt S c h r)) w' ∧ Beside b w w' := by
  have hA := phA_bd ok.p0 ok.p5 c h r
  have AK := fun u => pasked S.p c h r u
  show Calls _ _ _ _ fun e w' => e = .returned (.int .i64 (phP pt S (phA S.p c h r))) ∧ Held b (phC pt (phZ pt S (phA S.p c h r) h)) w' ∧ Beside b w w'
  generalize phA S.p c h r = kA at *
  obtain ⟨j, rfl⟩ : ∃ j : Nat, kA = (j : Int) := ⟨kA.toNat, by omega⟩
  have n0 := ok.n0
  have n1 := ok.n1
  have l0 := ok.l0
  have l1 := ok.l1
  have p0 := ok.p0
  have p5 := ok.p5
  have m1 := ok.pt2
  have t0 := ok.t0
  have t1 := ok.t1
  obtain ⟨p, a, n, T, hv, hk, lg⟩ := S
  try dsimp only at *
  obtain ⟨i, rfl⟩ : ∃ i : Nat, p = (i : Int) := ⟨p.toNat, by omega⟩
  have hi5 : i ≤ 5 := by omega
  have hj5 : j ≤ 5 := by omega
  have IN := Lib.hid (fun v (kv : Held b (phC pt ⟨i, a, n, T, hv, hk, lg⟩) v) => pins_any b (S := ⟨i, a, n, T, hv, hk, lg⟩) (j : Int) v kv (by dsimp only; omega))
  generalize hN : phN ⟨i, a, n, T, hv, hk, lg⟩ j = N at *
  have blt := k.lt
  obtain ⟨V, eV, hb0, hz, hcs⟩ := pst_box w c h r
  have kV := k.below hb0 blt
  have k0 := kV.c 1 _ rfl
  replace AK := Lib.hid AK
  replace hb0 := Lib.hid hb0
  replace hz := Lib.hid hz
  replace hcs := Lib.hid hcs
  replace eV := Lib.hid eV
  have KV := Lib.hid kV
  clear kV k
  go_enter Try.func54, Try.ntmps54
  go_wp2_with fail
  rw [← eV.out]
  obtain ⟨k1, k2, k3⟩ := hcs.out _ (Below.refl _ _)
  try dsimp only at k0
  go_wp2_with fail
  refine region_moves (fun u => u.cell? ⟨b, 1, none⟩ = some (.int .i64 (i : Int)) ∧ u.cell? ⟨w.heap.size, 0, none⟩ = some (.int .i64 c) ∧ u.cell? ⟨w.heap.size, 1, none⟩ = some (.int .i64 h) ∧ u.cell? ⟨w.heap.size, 2, none⟩ = some (.int .i64 r)) [(5, [(3, 5), (4, 5), (2, 3), (1, 2), (0, 1)])] [(.free, 0), (.free, 1), (.free, 2), (.take, 3), (.take, 4), (.late, 5), (.free, 6)] _ (by kernel_rfl) (by kernel_rfl) (by kernel_rfl) (by kernel_rfl) (by decide) rfl (fun _ _ _ _ _ h => h) ?_
  simp only [List.filterMap_cons, List.filterMap_nil, List.getElem?_toArray, List.getElem?_cons_zero, List.getElem?_cons_succ, Option.map_some]
  iterate 3
    first
      | (refine mv_free ?_ (Or.inl ⟨by rfl, ?_⟩) (⟨k0, k1, k2, k3⟩) ?_
         rotate_left 1
         · intro u
           go_simp
           try with_reducible rfl
         simp only [Act.put, List.setIfInBounds_toArray, List.set_cons_zero, List.set_cons_succ])
      | (refine mv_free _ (Or.inr ⟨by rfl, rfl⟩) (⟨k0, k1, k2, k3⟩) ?_
         simp only [Act.put, List.setIfInBounds_toArray, List.set_cons_zero, List.set_cons_succ])
  iterate 2
    first
      | (refine mv_take ?_ (Or.inl ⟨by rfl, ?_⟩) (⟨k0, k1, k2, k3⟩) ?_
         rotate_left 1
         · intro u hu
           (try dsimp only at hu)
           go_simp
           try with_reducible rfl
         simp only [Act.put, List.setIfInBounds_toArray, List.set_cons_zero, List.set_cons_succ])
      | (refine mv_take _ (Or.inr ⟨by rfl, rfl⟩) (⟨k0, k1, k2, k3⟩) ?_
         simp only [Act.put, List.setIfInBounds_toArray, List.set_cons_zero, List.set_cons_succ])
  refine mv_late (fun K hK => ?_)
  go_simp
  refine (AK.out _).mono ?_
  rintro e w1 ⟨rfl, hb1⟩
  go_wp2_with fail
  have hb1 := (Below.refl V.heap.size V).drew.trans hb1
  refine hK.out (fun _ => True) _ _ ?_
  clear hK K
  iterate 1
    first
      | (refine mv_free ?_ (Or.inl ⟨by rfl, ?_⟩) (trivial) ?_
         rotate_left 1
         · intro u
           go_simp
           try with_reducible rfl
         simp only [Act.put, List.setIfInBounds_toArray, List.set_cons_zero, List.set_cons_succ])
      | (refine mv_free _ (Or.inr ⟨by rfl, rfl⟩) (trivial) ?_
         simp only [Act.put, List.setIfInBounds_toArray, List.set_cons_zero, List.set_cons_succ])
  refine mv_done ?_
  have K1 := KV.out.below hb1 KV.out.lt
  have hq1 := Lib.hid ((Below.refl (w.heap.size + 1) V).trans (hb1.mono (Nat.le_of_eq hz.out.symm)))
  have bs1 := Lib.hid (Beside.of_below (b := b) (hb0.out.trans (hb1.mono (by have := hz.out; omega))))
  clear k0 k1 k2 k3 hb1 KV
  go_wp2_with fail
  refine (IN.out _ K1).mono ?_
  rintro e w2 ⟨rfl, kk, ob2⟩
  have bs2 := Lib.hid (bs1.out.trans ob2)
  have hx : w2.cell? ⟨w.heap.size, 1, none⟩ = some (.int .i64 h) := (World.cell?_of_block (a := ⟨w.heap.size, 1, none⟩) (ob2.block w.heap.size (by have := hq1.out.size; have := hz.out; omega) (by omega))).trans (hcs.out _ hq1.out).2.1
  clear K1 IN AK ob2
  try dsimp only at kk
  rcases hG0 : phG pt ⟨(i : Int), a, n, T, hv, hk, lg⟩ (j : Int) with _ | _
  · have hG := hG0
    replace hG := Lib.hid hG
    have q1 := kk.c 1 _ rfl
    obtain ⟨qc, qf⟩ := phC_at kk hi5
    try dsimp only at qc q1
    have e5 : (i : Int) < 6 := by omega
    have ew : IntKind.i64.wrap (T i + 1) = T i + 1 := IntWalk.i64_in _ ⟨by have := t0 i; omega, by have := t1 i; omega⟩
    have KK := Lib.hid kk
    have HX := Lib.hid hx
    clear kk hx
    go_wp2_with fail
    refine region_moves (fun u => u.cell? ⟨b, 1, none⟩ = some (.int .i64 (i : Int)) ∧ u.cell? ⟨b, 4 + i, none⟩ = some (.int .i64 (T i))) [(13, [(12, 13), (9, 13), (0, 13), (1, 13), (2, 13), (3, 13), (4, 13), (5, 13), (6, 13), (7, 13), (8, 13), (11, 12), (10, 11)])] [(.free, 0), (.free, 1), (.free, 2), (.free, 3), (.take, 4), (.free, 5), (.free, 6), (.free, 7), (.take, 8), (.free, 9), (.free, 10), (.free, 11), (.free, 12), (.late, 13)] _ (by kernel_rfl) (by kernel_rfl) (by kernel_rfl) (by kernel_rfl) (by decide) rfl (fun _ _ _ _ _ h => h) ?_
    simp only [List.filterMap_cons, List.filterMap_nil, List.getElem?_toArray, List.getElem?_cons_zero, List.getElem?_cons_succ, Option.map_some]
    iterate 4
      first
        | (refine mv_free ?_ (Or.inl ⟨by rfl, ?_⟩) (⟨q1, qc⟩) ?_
           rotate_left 1
           · intro u
             go_simp
             try with_reducible rfl
           simp only [Act.put, List.setIfInBounds_toArray, List.set_cons_zero, List.set_cons_succ])
        | (refine mv_free _ (Or.inr ⟨by rfl, rfl⟩) (⟨q1, qc⟩) ?_
           simp only [Act.put, List.setIfInBounds_toArray, List.set_cons_zero, List.set_cons_succ])
    iterate 1
      first
        | (refine mv_take ?_ (Or.inl ⟨by rfl, ?_⟩) (⟨q1, qc⟩) ?_
           rotate_left 1
           · intro u hu
             (try dsimp only at hu)
             go_simp
             try with_reducible rfl
           simp only [Act.put, List.setIfInBounds_toArray, List.set_cons_zero, List.set_cons_succ])
        | (refine mv_take _ (Or.inr ⟨by rfl, rfl⟩) (⟨q1, qc⟩) ?_
           simp only [Act.put, List.setIfInBounds_toArray, List.set_cons_zero, List.set_cons_succ])
    iterate 3
      first
        | (refine mv_free ?_ (Or.inl ⟨by rfl, ?_⟩) (⟨q1, qc⟩) ?_
           rotate_left 1
           · intro u
             go_simp
             try with_reducible rfl
           simp only [Act.put, List.setIfInBounds_toArray, List.set_cons_zero, List.set_cons_succ])
        | (refine mv_free _ (Or.inr ⟨by rfl, rfl⟩) (⟨q1, qc⟩) ?_
           simp only [Act.put, List.setIfInBounds_toArray, List.set_cons_zero, List.set_cons_succ])
    iterate 1
      first
        | (refine mv_take ?_ (Or.inl ⟨by rfl, ?_⟩) (⟨q1, qc⟩) ?_
           rotate_left 1
           · intro u hu
             (try dsimp only at hu)
             go_simp
             try with_reducible rfl
           simp only [Act.put, List.setIfInBounds_toArray, List.set_cons_zero, List.set_cons_succ])
        | (refine mv_take _ (Or.inr ⟨by rfl, rfl⟩) (⟨q1, qc⟩) ?_
           simp only [Act.put, List.setIfInBounds_toArray, List.set_cons_zero, List.set_cons_succ])
    iterate 4
      first
        | (refine mv_free ?_ (Or.inl ⟨by rfl, ?_⟩) (⟨q1, qc⟩) ?_
           rotate_left 1
           · intro u
             go_simp
             try with_reducible rfl
           simp only [Act.put, List.setIfInBounds_toArray, List.set_cons_zero, List.set_cons_succ])
        | (refine mv_free _ (Or.inr ⟨by rfl, rfl⟩) (⟨q1, qc⟩) ?_
           simp only [Act.put, List.setIfInBounds_toArray, List.set_cons_zero, List.set_cons_succ])
    refine mv_late (fun K hK => ?_)
    go_simp
    refine hK.out (fun _ => True) _ _ ?_
    clear hK K
    refine mv_done ?_
    obtain ⟨w5, ew5⟩ : ∃ w5, w5 = (w2.setCell ⟨b, 4 + i, none⟩ (.int .i64 (T i + 1))).drew := ⟨_, rfl⟩
    obtain ⟨k2, b2⟩ := (((HB.start KK.out).set (4 + i) (.int .i64 (T i + 1)) (by simp [phC]; omega)).is (phC_up pt ⟨(i : Int), (j : Int), N, T, hv, hk, lg⟩ hi5 (T i + 1))).fin (v' := w5) (by rw [ew5]; rfl) (by rw [ew5]; rfl) (by rw [ew5]; rfl) (by rw [ew5]; rfl)
    have hx5 : w5.cell? ⟨w.heap.size, 1, none⟩ = some (.int .i64 h) := (World.cell?_of_block (a := ⟨w.heap.size, 1, none⟩) (b2.block w.heap.size (cell_lt HX.out) (by omega))).trans HX.out
    rw [← ew5]
    have bs5 := Lib.hid (bs2.out.trans b2)
    replace ew5 := Lib.hid ew5
    clear q1 qc qf KK b2 ew HX
    have K5 := Lib.hid k2
    obtain ⟨c0, f0⟩ := k2.one 0 rfl
    obtain ⟨c1, f1⟩ := k2.one 1 rfl
    obtain ⟨c2, f2⟩ := k2.one 2 rfl
    obtain ⟨c3, f3⟩ := k2.one 3 rfl
    obtain ⟨c4, f4⟩ := k2.one 4 rfl
    obtain ⟨c5, f5⟩ := k2.one 5 rfl
    obtain ⟨c6, f6⟩ := k2.one 6 rfl
    obtain ⟨c7, f7⟩ := k2.one 7 rfl
    obtain ⟨c8, f8⟩ := k2.one 8 rfl
    obtain ⟨c9, f9⟩ := k2.one 9 rfl
    obtain ⟨c10, f10⟩ := k2.one 10 rfl
    obtain ⟨c11, f11⟩ := k2.one 11 rfl
    obtain ⟨c12, f12⟩ := k2.one 12 rfl
    clear k2
    rcases (show (i : Int) = 0 ∨ ((i : Int) ≠ 0) by omega) with z | z
    · have z1 : ((i : Int) != 0) = false := by simp [z]
      have hz0 := Lib.hid z
      clear z
      go_wp2
      go_ret
      have eZ : phZ pt ⟨(i : Int), a, n, T, hv, hk, lg⟩ (j : Int) h = ⟨(i : Int), (j : Int), N, upd T i (T i + 1), hv, hk, lg⟩ :=
        phZ_is (q := i) (by simp [phP, hG.out]) (by simp [hG.out, hN]) (by rw [if_pos hz0.out]) (by simp [hz0.out]) (by simp [hG.out])
      have eP : phP pt ⟨(i : Int), a, n, T, hv, hk, lg⟩ (j : Int) = (i : Int) := by simp [phP, hG.out]
      exact ⟨(show Ending.returned (.int .i64 (i : Int)) = .returned (.int .i64 (phP pt ⟨(i : Int), a, n, T, hv, hk, lg⟩ (j : Int))) from by rw [eP]), by rw [eZ]; exact K5.out, bs5.out⟩
    · have z1 : ((i : Int) != 0) = true := bne_iff_ne.2 z
      have hz0 := Lib.hid z
      clear z
      go_wp2_with fail
      refine (oget_any _ _ _).mono ?_
      rintro e w6 ⟨rfl, hb6⟩
      have K6 := Lib.hid (K5.out.bel hb6)
      have bs6 := Lib.hid (bs5.out.trans (.of_below hb6))
      have hx6 : w6.cell? ⟨w.heap.size, 1, none⟩ = some (.int .i64 h) := (bc hb6 (cell_lt hx5)).trans hx5
      clear hb6 hx5 K5 bs5 c0 c1 c2 c3 c4 c5 c6 c7 c8 c9 c10 c11 c12 f0 f1 f2 f3 f4 f5 f6 f7 f8 f9 f10 f11 f12
      have k6 := K6.out
      obtain ⟨c0, f0⟩ := k6.one 0 rfl
      obtain ⟨c1, f1⟩ := k6.one 1 rfl
      obtain ⟨c2, f2⟩ := k6.one 2 rfl
      obtain ⟨c3, f3⟩ := k6.one 3 rfl
      obtain ⟨c4, f4⟩ := k6.one 4 rfl
      obtain ⟨c5, f5⟩ := k6.one 5 rfl
      obtain ⟨c6, f6⟩ := k6.one 6 rfl
      obtain ⟨c7, f7⟩ := k6.one 7 rfl
      obtain ⟨c8, f8⟩ := k6.one 8 rfl
      obtain ⟨c9, f9⟩ := k6.one 9 rfl
      obtain ⟨c10, f10⟩ := k6.one 10 rfl
      obtain ⟨c11, f11⟩ := k6.one 11 rfl
      obtain ⟨c12, f12⟩ := k6.one 12 rfl
      clear k6
      rcases (show hk = false ∨ (hk = true ∧ hv < h) ∨ (hk = true ∧ h ≤ hv) by cases hk <;> simp <;> omega) with e1 | ⟨e1, e2⟩ | ⟨e1, e2⟩
      · subst e1
        go_wp2_with fail
        refine (oof_any _ _).mono ?_
        rintro e w7 ⟨rfl, hb7⟩
        have k7 := K6.out.bel hb7
        have bs7 := Lib.hid (bs6.out.trans (.of_below hb7))
        have K7 := Lib.hid k7
        clear hb7 c0 c1 c2 c3 c4 c5 c6 c7 c8 c9 c10 c11 c12 f0 f1 f2 f3 f4 f5 f6 f7 f8 f9 f10 f11 f12
        obtain ⟨c0, f0⟩ := k7.one 0 rfl
        obtain ⟨c1, f1⟩ := k7.one 1 rfl
        obtain ⟨c2, f2⟩ := k7.one 2 rfl
        obtain ⟨c3, f3⟩ := k7.one 3 rfl
        obtain ⟨c4, f4⟩ := k7.one 4 rfl
        obtain ⟨c5, f5⟩ := k7.one 5 rfl
        obtain ⟨c6, f6⟩ := k7.one 6 rfl
        obtain ⟨c7, f7⟩ := k7.one 7 rfl
        obtain ⟨c8, f8⟩ := k7.one 8 rfl
        obtain ⟨c9, f9⟩ := k7.one 9 rfl
        obtain ⟨c10, f10⟩ := k7.one 10 rfl
        obtain ⟨c11, f11⟩ := k7.one 11 rfl
        obtain ⟨c12, f12⟩ := k7.one 12 rfl
        clear k7
        obtain ⟨w8, ew8⟩ : ∃ w8, w8 = (w7.setCell ⟨b, 10, none⟩ (.int .i64 h)).setCell ⟨b, 11, none⟩ (.bool true) := ⟨_, rfl⟩
        obtain ⟨k8, b8⟩ := ((((HB.start K7.out).set 10 (.int .i64 h) (by simp [phC])).set 11 (.bool true) (by simp [phC])).is (show _ = phC pt ⟨(i : Int), (j : Int), N, upd T i (T i + 1), h, true, lg⟩ from rfl)).fin (v' := w8) (by rw [ew8]) (by rw [ew8]) (by rw [ew8]) (by rw [ew8])
        have bs8 := Lib.hid (bs7.out.trans b8)
        replace ew8 := Lib.hid ew8
        have K8 := Lib.hid k8
        have r8 := k8.c 1 _ rfl
        try dsimp only at r8
        clear k8 b8
        go_upto_region 14 with (fail)
        rw [← ew8.out]
        go_wp2
        go_ret
        have eZ : phZ pt ⟨(i : Int), a, n, T, hv, false, lg⟩ (j : Int) h = ⟨(i : Int), (j : Int), N, upd T i (T i + 1), h, true, lg⟩ :=
          phZ_is (q := i) (by simp [phP, hG.out]) (by simp [hG.out, hN]) (by rw [if_neg hz0.out]; simp) (by have z := hz0.out; simp; try omega) (by simp [hG.out])
        have eP : phP pt ⟨(i : Int), a, n, T, hv, false, lg⟩ (j : Int) = (i : Int) := by simp [phP, hG.out]
        exact ⟨(show Ending.returned (.int .i64 (i : Int)) = .returned (.int .i64 (phP pt ⟨(i : Int), a, n, T, hv, false, lg⟩ (j : Int))) from by rw [eP]), by rw [eZ]; exact K8.out, bs8.out⟩
      · subst e1
        go_wp2_with fail
        refine (oof_any _ _).mono ?_
        rintro e w7 ⟨rfl, hb7⟩
        have k7 := K6.out.bel hb7
        have bs7 := Lib.hid (bs6.out.trans (.of_below hb7))
        have K7 := Lib.hid k7
        clear hb7 c0 c1 c2 c3 c4 c5 c6 c7 c8 c9 c10 c11 c12 f0 f1 f2 f3 f4 f5 f6 f7 f8 f9 f10 f11 f12
        obtain ⟨c0, f0⟩ := k7.one 0 rfl
        obtain ⟨c1, f1⟩ := k7.one 1 rfl
        obtain ⟨c2, f2⟩ := k7.one 2 rfl
        obtain ⟨c3, f3⟩ := k7.one 3 rfl
        obtain ⟨c4, f4⟩ := k7.one 4 rfl
        obtain ⟨c5, f5⟩ := k7.one 5 rfl
        obtain ⟨c6, f6⟩ := k7.one 6 rfl
        obtain ⟨c7, f7⟩ := k7.one 7 rfl
        obtain ⟨c8, f8⟩ := k7.one 8 rfl
        obtain ⟨c9, f9⟩ := k7.one 9 rfl
        obtain ⟨c10, f10⟩ := k7.one 10 rfl
        obtain ⟨c11, f11⟩ := k7.one 11 rfl
        obtain ⟨c12, f12⟩ := k7.one 12 rfl
        clear k7
        obtain ⟨w8, ew8⟩ : ∃ w8, w8 = (w7.setCell ⟨b, 10, none⟩ (.int .i64 h)).setCell ⟨b, 11, none⟩ (.bool true) := ⟨_, rfl⟩
        obtain ⟨k8, b8⟩ := ((((HB.start K7.out).set 10 (.int .i64 h) (by simp [phC])).set 11 (.bool true) (by simp [phC])).is (show _ = phC pt ⟨(i : Int), (j : Int), N, upd T i (T i + 1), h, true, lg⟩ from rfl)).fin (v' := w8) (by rw [ew8]) (by rw [ew8]) (by rw [ew8]) (by rw [ew8])
        have bs8 := Lib.hid (bs7.out.trans b8)
        replace ew8 := Lib.hid ew8
        have K8 := Lib.hid k8
        have r8 := k8.c 1 _ rfl
        try dsimp only at r8
        clear k8 b8
        go_upto_region 14 with (fail)
        rw [← ew8.out]
        go_wp2
        go_ret
        have eZ : phZ pt ⟨(i : Int), a, n, T, hv, true, lg⟩ (j : Int) h = ⟨(i : Int), (j : Int), N, upd T i (T i + 1), h, true, lg⟩ :=
          phZ_is (q := i) (by simp [phP, hG.out]) (by simp [hG.out, hN]) (by rw [if_neg hz0.out, if_neg (fun q => by have := q.2; dsimp only at this; omega)]) (by have z := hz0.out; simp; try omega) (by simp [hG.out])
        have eP : phP pt ⟨(i : Int), a, n, T, hv, true, lg⟩ (j : Int) = (i : Int) := by simp [phP, hG.out]
        exact ⟨(show Ending.returned (.int .i64 (i : Int)) = .returned (.int .i64 (phP pt ⟨(i : Int), a, n, T, hv, true, lg⟩ (j : Int))) from by rw [eP]), by rw [eZ]; exact K8.out, bs8.out⟩
      · subst e1
        go_wp2
        go_ret
        have eZ : phZ pt ⟨(i : Int), a, n, T, hv, true, lg⟩ (j : Int) h = ⟨(i : Int), (j : Int), N, upd T i (T i + 1), hv, true, lg⟩ :=
          phZ_is (q := i) (by simp [phP, hG.out]) (by simp [hG.out, hN]) (by rw [if_neg hz0.out, if_pos ⟨rfl, e2⟩]) (by simp) (by simp [hG.out])
        have eP : phP pt ⟨(i : Int), a, n, T, hv, true, lg⟩ (j : Int) = (i : Int) := by simp [phP, hG.out]
        exact ⟨(show Ending.returned (.int .i64 (i : Int)) = .returned (.int .i64 (phP pt ⟨(i : Int), a, n, T, hv, true, lg⟩ (j : Int))) from by rw [eP]), by rw [eZ]; exact K6.out, bs6.out⟩
  · have hG := Lib.hid hG0
    have hne : (j : Int) ≠ i := by
      intro e
      rw [phG] at hG0
      simp [e] at hG0
    obtain ⟨c0, f0⟩ := kk.one 0 rfl
    obtain ⟨c1, f1⟩ := kk.one 1 rfl
    obtain ⟨c2, f2⟩ := kk.one 2 rfl
    obtain ⟨c3, f3⟩ := kk.one 3 rfl
    obtain ⟨c4, f4⟩ := kk.one 4 rfl
    obtain ⟨c5, f5⟩ := kk.one 5 rfl
    obtain ⟨c6, f6⟩ := kk.one 6 rfl
    obtain ⟨c7, f7⟩ := kk.one 7 rfl
    obtain ⟨c8, f8⟩ := kk.one 8 rfl
    obtain ⟨c9, f9⟩ := kk.one 9 rfl
    obtain ⟨c10, f10⟩ := kk.one 10 rfl
    obtain ⟨c11, f11⟩ := kk.one 11 rfl
    obtain ⟨c12, f12⟩ := kk.one 12 rfl
    rcases (show (i : Int) = 5 ∧ (j : Int) = 0 ∨ (i : Int) = 5 ∧ (j : Int) ≠ 0 ∨ (i : Int) ≠ 5 by omega) with ⟨y1, y2⟩ | ⟨y1, y2⟩ | y1
    · have K2 := Lib.hid kk
      clear kk
      have x1 : ((i : Int) == 5) = true := by simp [y1]
      have x2 : ((j : Int) == 0) = true := by simp [y2]
      have ewl : IntKind.i64.wrap (lg + 1) = lg + 1 := IntWalk.i64_in _ ⟨by omega, by omega⟩
      replace y1 := Lib.hid y1
      replace y2 := Lib.hid y2
      have hne2 := Lib.hid hne
      clear hne
      obtain ⟨w3, ew3⟩ : ∃ w3, w3 = (((w2.setCell ⟨b, 12, none⟩ (.int .i64 (lg + 1))).setCell ⟨b, 1, none⟩ (.int .i64 (j : Int))).setCell ⟨b, 3, none⟩ (.int .i64 0)) := ⟨_, rfl⟩
      obtain ⟨k3, b3⟩ := (((((HB.start K2.out).set 12 (.int .i64 (lg + 1)) (by simp [phC])).set 1 (.int .i64 (j : Int)) (by simp [phC])).set 3 (.int .i64 0) (by simp [phC])).is (show _ = phC pt ⟨(j : Int), (j : Int), 0, T, hv, hk, (lg + 1)⟩ from rfl)).fin (v' := w3) (by rw [ew3]) (by rw [ew3]) (by rw [ew3]) (by rw [ew3])
      replace hx : w3.cell? ⟨w.heap.size, 1, none⟩ = some (.int .i64 h) := (World.cell?_of_block (a := ⟨w.heap.size, 1, none⟩) (b3.block w.heap.size (cell_lt hx) (by omega))).trans hx
      replace bs2 := Lib.hid (bs2.out.trans b3)
      replace ew3 := Lib.hid ew3
      have K3 := Lib.hid k3
      clear k3 b3
      go_upto_region 9 with (fail)
      rw [← ew3.out]
      have kk := K3.out
      clear K3 K2 c0 c1 c2 c3 c4 c5 c6 c7 c8 c9 c10 c11 c12 f0 f1 f2 f3 f4 f5 f6 f7 f8 f9 f10 f11 f12
      have q1 := kk.c 1 _ rfl
      obtain ⟨qc, qf⟩ := phC_at kk hj5
      try dsimp only at qc q1
      have e5 : (j : Int) < 6 := by omega
      have ew : IntKind.i64.wrap (T j + 1) = T j + 1 := IntWalk.i64_in _ ⟨by have := t0 j; omega, by have := t1 j; omega⟩
      have KK := Lib.hid kk
      have HX := Lib.hid hx
      clear kk hx
      go_wp2_with fail
      refine region_moves (fun u => u.cell? ⟨b, 1, none⟩ = some (.int .i64 (j : Int)) ∧ u.cell? ⟨b, 4 + j, none⟩ = some (.int .i64 (T j))) [(13, [(12, 13), (9, 13), (0, 13), (1, 13), (2, 13), (3, 13), (4, 13), (5, 13), (6, 13), (7, 13), (8, 13), (11, 12), (10, 11)])] [(.free, 0), (.free, 1), (.free, 2), (.free, 3), (.take, 4), (.free, 5), (.free, 6), (.free, 7), (.take, 8), (.free, 9), (.free, 10), (.free, 11), (.free, 12), (.late, 13)] _ (by kernel_rfl) (by kernel_rfl) (by kernel_rfl) (by kernel_rfl) (by decide) rfl (fun _ _ _ _ _ h => h) ?_
      simp only [List.filterMap_cons, List.filterMap_nil, List.getElem?_toArray, List.getElem?_cons_zero, List.getElem?_cons_succ, Option.map_some]
      iterate 4
        first
          | (refine mv_free ?_ (Or.inl ⟨by rfl, ?_⟩) (⟨q1, qc⟩) ?_
             rotate_left 1
             · intro u
               go_simp
               try with_reducible rfl
             simp only [Act.put, List.setIfInBounds_toArray, List.set_cons_zero, List.set_cons_succ])
          | (refine mv_free _ (Or.inr ⟨by rfl, rfl⟩) (⟨q1, qc⟩) ?_
             simp only [Act.put, List.setIfInBounds_toArray, List.set_cons_zero, List.set_cons_succ])
      iterate 1
        first
          | (refine mv_take ?_ (Or.inl ⟨by rfl, ?_⟩) (⟨q1, qc⟩) ?_
             rotate_left 1
             · intro u hu
               (try dsimp only at hu)
               go_simp
               try with_reducible rfl
             simp only [Act.put, List.setIfInBounds_toArray, List.set_cons_zero, List.set_cons_succ])
          | (refine mv_take _ (Or.inr ⟨by rfl, rfl⟩) (⟨q1, qc⟩) ?_
             simp only [Act.put, List.setIfInBounds_toArray, List.set_cons_zero, List.set_cons_succ])
      iterate 3
        first
          | (refine mv_free ?_ (Or.inl ⟨by rfl, ?_⟩) (⟨q1, qc⟩) ?_
             rotate_left 1
             · intro u
               go_simp
               try with_reducible rfl
             simp only [Act.put, List.setIfInBounds_toArray, List.set_cons_zero, List.set_cons_succ])
          | (refine mv_free _ (Or.inr ⟨by rfl, rfl⟩) (⟨q1, qc⟩) ?_
             simp only [Act.put, List.setIfInBounds_toArray, List.set_cons_zero, List.set_cons_succ])
      iterate 1
        first
          | (refine mv_take ?_ (Or.inl ⟨by rfl, ?_⟩) (⟨q1, qc⟩) ?_
             rotate_left 1
             · intro u hu
               (try dsimp only at hu)
               go_simp
               try with_reducible rfl
             simp only [Act.put, List.setIfInBounds_toArray, List.set_cons_zero, List.set_cons_succ])
          | (refine mv_take _ (Or.inr ⟨by rfl, rfl⟩) (⟨q1, qc⟩) ?_
             simp only [Act.put, List.setIfInBounds_toArray, List.set_cons_zero, List.set_cons_succ])
      iterate 4
        first
          | (refine mv_free ?_ (Or.inl ⟨by rfl, ?_⟩) (⟨q1, qc⟩) ?_
             rotate_left 1
             · intro u
               go_simp
               try with_reducible rfl
             simp only [Act.put, List.setIfInBounds_toArray, List.set_cons_zero, List.set_cons_succ])
          | (refine mv_free _ (Or.inr ⟨by rfl, rfl⟩) (⟨q1, qc⟩) ?_
             simp only [Act.put, List.setIfInBounds_toArray, List.set_cons_zero, List.set_cons_succ])
      refine mv_late (fun K hK => ?_)
      go_simp
      refine hK.out (fun _ => True) _ _ ?_
      clear hK K
      refine mv_done ?_
      obtain ⟨w5, ew5⟩ : ∃ w5, w5 = (w3.setCell ⟨b, 4 + j, none⟩ (.int .i64 (T j + 1))).drew := ⟨_, rfl⟩
      obtain ⟨k2, b2⟩ := (((HB.start KK.out).set (4 + j) (.int .i64 (T j + 1)) (by simp [phC]; omega)).is (phC_up pt ⟨(j : Int), (j : Int), 0, T, hv, hk, (lg + 1)⟩ hj5 (T j + 1))).fin (v' := w5) (by rw [ew5]; rfl) (by rw [ew5]; rfl) (by rw [ew5]; rfl) (by rw [ew5]; rfl)
      have hx5 : w5.cell? ⟨w.heap.size, 1, none⟩ = some (.int .i64 h) := (World.cell?_of_block (a := ⟨w.heap.size, 1, none⟩) (b2.block w.heap.size (cell_lt HX.out) (by omega))).trans HX.out
      rw [← ew5]
      have bs5 := Lib.hid (bs2.out.trans b2)
      replace ew5 := Lib.hid ew5
      clear q1 qc qf KK b2 ew HX
      have K5 := Lib.hid k2
      obtain ⟨c0, f0⟩ := k2.one 0 rfl
      obtain ⟨c1, f1⟩ := k2.one 1 rfl
      obtain ⟨c2, f2⟩ := k2.one 2 rfl
      obtain ⟨c3, f3⟩ := k2.one 3 rfl
      obtain ⟨c4, f4⟩ := k2.one 4 rfl
      obtain ⟨c5, f5⟩ := k2.one 5 rfl
      obtain ⟨c6, f6⟩ := k2.one 6 rfl
      obtain ⟨c7, f7⟩ := k2.one 7 rfl
      obtain ⟨c8, f8⟩ := k2.one 8 rfl
      obtain ⟨c9, f9⟩ := k2.one 9 rfl
      obtain ⟨c10, f10⟩ := k2.one 10 rfl
      obtain ⟨c11, f11⟩ := k2.one 11 rfl
      obtain ⟨c12, f12⟩ := k2.one 12 rfl
      clear k2
      rcases (show (j : Int) = 0 ∨ ((j : Int) ≠ 0) by omega) with z | z
      · have z1 : ((j : Int) != 0) = false := by simp [z]
        have hz0 := Lib.hid z
        clear z
        go_wp2
        go_ret
        have eZ : phZ pt ⟨(i : Int), a, n, T, hv, hk, lg⟩ (j : Int) h = ⟨(j : Int), (j : Int), 0, upd T j (T j + 1), hv, hk, (lg + 1)⟩ :=
          phZ_is (q := j) (by simp [phP, hG.out]) (by simp [hG.out, hN]) (by rw [if_pos hz0.out]) (by simp [hz0.out]) (by rw [if_pos ⟨hG.out, y1.out, y2.out⟩])
        have eP : phP pt ⟨(i : Int), a, n, T, hv, hk, lg⟩ (j : Int) = (j : Int) := by simp [phP, hG.out]
        exact ⟨(show Ending.returned (.int .i64 (j : Int)) = .returned (.int .i64 (phP pt ⟨(i : Int), a, n, T, hv, hk, lg⟩ (j : Int))) from by rw [eP]), by rw [eZ]; exact K5.out, bs5.out⟩
      · exact absurd y2.out z
    · have K2 := Lib.hid kk
      clear kk
      have x1 : ((i : Int) == 5) = true := by simp [y1]
      have x2 : ((j : Int) == 0) = false := beq_eq_false_iff_ne.2 y2
      replace y1 := Lib.hid y1
      replace y2 := Lib.hid y2
      have hne2 := Lib.hid hne
      clear hne
      obtain ⟨w3, ew3⟩ : ∃ w3, w3 = ((w2.setCell ⟨b, 1, none⟩ (.int .i64 (j : Int))).setCell ⟨b, 3, none⟩ (.int .i64 0)) := ⟨_, rfl⟩
      obtain ⟨k3, b3⟩ := ((((HB.start K2.out).set 1 (.int .i64 (j : Int)) (by simp [phC])).set 3 (.int .i64 0) (by simp [phC])).is (show _ = phC pt ⟨(j : Int), (j : Int), 0, T, hv, hk, lg⟩ from rfl)).fin (v' := w3) (by rw [ew3]) (by rw [ew3]) (by rw [ew3]) (by rw [ew3])
      replace hx : w3.cell? ⟨w.heap.size, 1, none⟩ = some (.int .i64 h) := (World.cell?_of_block (a := ⟨w.heap.size, 1, none⟩) (b3.block w.heap.size (cell_lt hx) (by omega))).trans hx
      replace bs2 := Lib.hid (bs2.out.trans b3)
      replace ew3 := Lib.hid ew3
      have K3 := Lib.hid k3
      clear k3 b3
      go_upto_region 9 with (fail)
      rw [← ew3.out]
      have kk := K3.out
      clear K3 K2 c0 c1 c2 c3 c4 c5 c6 c7 c8 c9 c10 c11 c12 f0 f1 f2 f3 f4 f5 f6 f7 f8 f9 f10 f11 f12
      have q1 := kk.c 1 _ rfl
      obtain ⟨qc, qf⟩ := phC_at kk hj5
      try dsimp only at qc q1
      have e5 : (j : Int) < 6 := by omega
      have ew : IntKind.i64.wrap (T j + 1) = T j + 1 := IntWalk.i64_in _ ⟨by have := t0 j; omega, by have := t1 j; omega⟩
      have KK := Lib.hid kk
      have HX := Lib.hid hx
      clear kk hx
      go_wp2_with fail
      refine region_moves (fun u => u.cell? ⟨b, 1, none⟩ = some (.int .i64 (j : Int)) ∧ u.cell? ⟨b, 4 + j, none⟩ = some (.int .i64 (T j))) [(13, [(12, 13), (9, 13), (0, 13), (1, 13), (2, 13), (3, 13), (4, 13), (5, 13), (6, 13), (7, 13), (8, 13), (11, 12), (10, 11)])] [(.free, 0), (.free, 1), (.free, 2), (.free, 3), (.take, 4), (.free, 5), (.free, 6), (.free, 7), (.take, 8), (.free, 9), (.free, 10), (.free, 11), (.free, 12), (.late, 13)] _ (by kernel_rfl) (by kernel_rfl) (by kernel_rfl) (by kernel_rfl) (by decide) rfl (fun _ _ _ _ _ h => h) ?_
      simp only [List.filterMap_cons, List.filterMap_nil, List.getElem?_toArray, List.getElem?_cons_zero, List.getElem?_cons_succ, Option.map_some]
      iterate 4
        first
          | (refine mv_free ?_ (Or.inl ⟨by rfl, ?_⟩) (⟨q1, qc⟩) ?_
             rotate_left 1
             · intro u
               go_simp
               try with_reducible rfl
             simp only [Act.put, List.setIfInBounds_toArray, List.set_cons_zero, List.set_cons_succ])
          | (refine mv_free _ (Or.inr ⟨by rfl, rfl⟩) (⟨q1, qc⟩) ?_
             simp only [Act.put, List.setIfInBounds_toArray, List.set_cons_zero, List.set_cons_succ])
      iterate 1
        first
          | (refine mv_take ?_ (Or.inl ⟨by rfl, ?_⟩) (⟨q1, qc⟩) ?_
             rotate_left 1
             · intro u hu
               (try dsimp only at hu)
               go_simp
               try with_reducible rfl
             simp only [Act.put, List.setIfInBounds_toArray, List.set_cons_zero, List.set_cons_succ])
          | (refine mv_take _ (Or.inr ⟨by rfl, rfl⟩) (⟨q1, qc⟩) ?_
             simp only [Act.put, List.setIfInBounds_toArray, List.set_cons_zero, List.set_cons_succ])
      iterate 3
        first
          | (refine mv_free ?_ (Or.inl ⟨by rfl, ?_⟩) (⟨q1, qc⟩) ?_
             rotate_left 1
             · intro u
               go_simp
               try with_reducible rfl
             simp only [Act.put, List.setIfInBounds_toArray, List.set_cons_zero, List.set_cons_succ])
          | (refine mv_free _ (Or.inr ⟨by rfl, rfl⟩) (⟨q1, qc⟩) ?_
             simp only [Act.put, List.setIfInBounds_toArray, List.set_cons_zero, List.set_cons_succ])
      iterate 1
        first
          | (refine mv_take ?_ (Or.inl ⟨by rfl, ?_⟩) (⟨q1, qc⟩) ?_
             rotate_left 1
             · intro u hu
               (try dsimp only at hu)
               go_simp
               try with_reducible rfl
             simp only [Act.put, List.setIfInBounds_toArray, List.set_cons_zero, List.set_cons_succ])
          | (refine mv_take _ (Or.inr ⟨by rfl, rfl⟩) (⟨q1, qc⟩) ?_
             simp only [Act.put, List.setIfInBounds_toArray, List.set_cons_zero, List.set_cons_succ])
      iterate 4
        first
          | (refine mv_free ?_ (Or.inl ⟨by rfl, ?_⟩) (⟨q1, qc⟩) ?_
             rotate_left 1
             · intro u
               go_simp
               try with_reducible rfl
             simp only [Act.put, List.setIfInBounds_toArray, List.set_cons_zero, List.set_cons_succ])
          | (refine mv_free _ (Or.inr ⟨by rfl, rfl⟩) (⟨q1, qc⟩) ?_
             simp only [Act.put, List.setIfInBounds_toArray, List.set_cons_zero, List.set_cons_succ])
      refine mv_late (fun K hK => ?_)
      go_simp
      refine hK.out (fun _ => True) _ _ ?_
      clear hK K
      refine mv_done ?_
      obtain ⟨w5, ew5⟩ : ∃ w5, w5 = (w3.setCell ⟨b, 4 + j, none⟩ (.int .i64 (T j + 1))).drew := ⟨_, rfl⟩
      obtain ⟨k2, b2⟩ := (((HB.start KK.out).set (4 + j) (.int .i64 (T j + 1)) (by simp [phC]; omega)).is (phC_up pt ⟨(j : Int), (j : Int), 0, T, hv, hk, lg⟩ hj5 (T j + 1))).fin (v' := w5) (by rw [ew5]; rfl) (by rw [ew5]; rfl) (by rw [ew5]; rfl) (by rw [ew5]; rfl)
      have hx5 : w5.cell? ⟨w.heap.size, 1, none⟩ = some (.int .i64 h) := (World.cell?_of_block (a := ⟨w.heap.size, 1, none⟩) (b2.block w.heap.size (cell_lt HX.out) (by omega))).trans HX.out
      rw [← ew5]
      have bs5 := Lib.hid (bs2.out.trans b2)
      replace ew5 := Lib.hid ew5
      clear q1 qc qf KK b2 ew HX
      have K5 := Lib.hid k2
      obtain ⟨c0, f0⟩ := k2.one 0 rfl
      obtain ⟨c1, f1⟩ := k2.one 1 rfl
      obtain ⟨c2, f2⟩ := k2.one 2 rfl
      obtain ⟨c3, f3⟩ := k2.one 3 rfl
      obtain ⟨c4, f4⟩ := k2.one 4 rfl
      obtain ⟨c5, f5⟩ := k2.one 5 rfl
      obtain ⟨c6, f6⟩ := k2.one 6 rfl
      obtain ⟨c7, f7⟩ := k2.one 7 rfl
      obtain ⟨c8, f8⟩ := k2.one 8 rfl
      obtain ⟨c9, f9⟩ := k2.one 9 rfl
      obtain ⟨c10, f10⟩ := k2.one 10 rfl
      obtain ⟨c11, f11⟩ := k2.one 11 rfl
      obtain ⟨c12, f12⟩ := k2.one 12 rfl
      clear k2
      rcases (show (j : Int) = 0 ∨ ((j : Int) ≠ 0) by omega) with z | z
      · have z1 : ((j : Int) != 0) = false := by simp [z]
        have hz0 := Lib.hid z
        clear z
        go_wp2
        go_ret
        have eZ : phZ pt ⟨(i : Int), a, n, T, hv, hk, lg⟩ (j : Int) h = ⟨(j : Int), (j : Int), 0, upd T j (T j + 1), hv, hk, lg⟩ :=
          phZ_is (q := j) (by simp [phP, hG.out]) (by simp [hG.out, hN]) (by rw [if_pos hz0.out]) (by simp [hz0.out]) (by rw [if_neg (fun q => y2.out q.2.2)])
        have eP : phP pt ⟨(i : Int), a, n, T, hv, hk, lg⟩ (j : Int) = (j : Int) := by simp [phP, hG.out]
        exact ⟨(show Ending.returned (.int .i64 (j : Int)) = .returned (.int .i64 (phP pt ⟨(i : Int), a, n, T, hv, hk, lg⟩ (j : Int))) from by rw [eP]), by rw [eZ]; exact K5.out, bs5.out⟩
      · have z1 : ((j : Int) != 0) = true := bne_iff_ne.2 z
        have hz0 := Lib.hid z
        clear z
        go_wp2_with fail
        refine (oget_any _ _ _).mono ?_
        rintro e w6 ⟨rfl, hb6⟩
        have K6 := Lib.hid (K5.out.bel hb6)
        have bs6 := Lib.hid (bs5.out.trans (.of_below hb6))
        have hx6 : w6.cell? ⟨w.heap.size, 1, none⟩ = some (.int .i64 h) := (bc hb6 (cell_lt hx5)).trans hx5
        clear hb6 hx5 K5 bs5 c0 c1 c2 c3 c4 c5 c6 c7 c8 c9 c10 c11 c12 f0 f1 f2 f3 f4 f5 f6 f7 f8 f9 f10 f11 f12
        have k6 := K6.out
        obtain ⟨c0, f0⟩ := k6.one 0 rfl
        obtain ⟨c1, f1⟩ := k6.one 1 rfl
        obtain ⟨c2, f2⟩ := k6.one 2 rfl
        obtain ⟨c3, f3⟩ := k6.one 3 rfl
        obtain ⟨c4, f4⟩ := k6.one 4 rfl
        obtain ⟨c5, f5⟩ := k6.one 5 rfl
        obtain ⟨c6, f6⟩ := k6.one 6 rfl
        obtain ⟨c7, f7⟩ := k6.one 7 rfl
        obtain ⟨c8, f8⟩ := k6.one 8 rfl
        obtain ⟨c9, f9⟩ := k6.one 9 rfl
        obtain ⟨c10, f10⟩ := k6.one 10 rfl
        obtain ⟨c11, f11⟩ := k6.one 11 rfl
        obtain ⟨c12, f12⟩ := k6.one 12 rfl
        clear k6
        rcases (show hk = false ∨ (hk = true ∧ hv < h) ∨ (hk = true ∧ h ≤ hv) by cases hk <;> simp <;> omega) with e1 | ⟨e1, e2⟩ | ⟨e1, e2⟩
        · subst e1
          go_wp2_with fail
          refine (oof_any _ _).mono ?_
          rintro e w7 ⟨rfl, hb7⟩
          have k7 := K6.out.bel hb7
          have bs7 := Lib.hid (bs6.out.trans (.of_below hb7))
          have K7 := Lib.hid k7
          clear hb7 c0 c1 c2 c3 c4 c5 c6 c7 c8 c9 c10 c11 c12 f0 f1 f2 f3 f4 f5 f6 f7 f8 f9 f10 f11 f12
          obtain ⟨c0, f0⟩ := k7.one 0 rfl
          obtain ⟨c1, f1⟩ := k7.one 1 rfl
          obtain ⟨c2, f2⟩ := k7.one 2 rfl
          obtain ⟨c3, f3⟩ := k7.one 3 rfl
          obtain ⟨c4, f4⟩ := k7.one 4 rfl
          obtain ⟨c5, f5⟩ := k7.one 5 rfl
          obtain ⟨c6, f6⟩ := k7.one 6 rfl
          obtain ⟨c7, f7⟩ := k7.one 7 rfl
          obtain ⟨c8, f8⟩ := k7.one 8 rfl
          obtain ⟨c9, f9⟩ := k7.one 9 rfl
          obtain ⟨c10, f10⟩ := k7.one 10 rfl
          obtain ⟨c11, f11⟩ := k7.one 11 rfl
          obtain ⟨c12, f12⟩ := k7.one 12 rfl
          clear k7
          obtain ⟨w8, ew8⟩ : ∃ w8, w8 = (w7.setCell ⟨b, 10, none⟩ (.int .i64 h)).setCell ⟨b, 11, none⟩ (.bool true) := ⟨_, rfl⟩
          obtain ⟨k8, b8⟩ := ((((HB.start K7.out).set 10 (.int .i64 h) (by simp [phC])).set 11 (.bool true) (by simp [phC])).is (show _ = phC pt ⟨(j : Int), (j : Int), 0, upd T j (T j + 1), h, true, lg⟩ from rfl)).fin (v' := w8) (by rw [ew8]) (by rw [ew8]) (by rw [ew8]) (by rw [ew8])
          have bs8 := Lib.hid (bs7.out.trans b8)
          replace ew8 := Lib.hid ew8
          have K8 := Lib.hid k8
          have r8 := k8.c 1 _ rfl
          try dsimp only at r8
          clear k8 b8
          go_upto_region 14 with (fail)
          rw [← ew8.out]
          go_wp2
          go_ret
          have eZ : phZ pt ⟨(i : Int), a, n, T, hv, false, lg⟩ (j : Int) h = ⟨(j : Int), (j : Int), 0, upd T j (T j + 1), h, true, lg⟩ :=
            phZ_is (q := j) (by simp [phP, hG.out]) (by simp [hG.out, hN]) (by rw [if_neg hz0.out]; simp) (by have z := hz0.out; simp; try omega) (by rw [if_neg (fun q => y2.out q.2.2)])
          have eP : phP pt ⟨(i : Int), a, n, T, hv, false, lg⟩ (j : Int) = (j : Int) := by simp [phP, hG.out]
          exact ⟨(show Ending.returned (.int .i64 (j : Int)) = .returned (.int .i64 (phP pt ⟨(i : Int), a, n, T, hv, false, lg⟩ (j : Int))) from by rw [eP]), by rw [eZ]; exact K8.out, bs8.out⟩
        · subst e1
          go_wp2_with fail
          refine (oof_any _ _).mono ?_
          rintro e w7 ⟨rfl, hb7⟩
          have k7 := K6.out.bel hb7
          have bs7 := Lib.hid (bs6.out.trans (.of_below hb7))
          have K7 := Lib.hid k7
          clear hb7 c0 c1 c2 c3 c4 c5 c6 c7 c8 c9 c10 c11 c12 f0 f1 f2 f3 f4 f5 f6 f7 f8 f9 f10 f11 f12
          obtain ⟨c0, f0⟩ := k7.one 0 rfl
          obtain ⟨c1, f1⟩ := k7.one 1 rfl
          obtain ⟨c2, f2⟩ := k7.one 2 rfl
          obtain ⟨c3, f3⟩ := k7.one 3 rfl
          obtain ⟨c4, f4⟩ := k7.one 4 rfl
          obtain ⟨c5, f5⟩ := k7.one 5 rfl
          obtain ⟨c6, f6⟩ := k7.one 6 rfl
          obtain ⟨c7, f7⟩ := k7.one 7 rfl
          obtain ⟨c8, f8⟩ := k7.one 8 rfl
          obtain ⟨c9, f9⟩ := k7.one 9 rfl
          obtain ⟨c10, f10⟩ := k7.one 10 rfl
          obtain ⟨c11, f11⟩ := k7.one 11 rfl
          obtain ⟨c12, f12⟩ := k7.one 12 rfl
          clear k7
          obtain ⟨w8, ew8⟩ : ∃ w8, w8 = (w7.setCell ⟨b, 10, none⟩ (.int .i64 h)).setCell ⟨b, 11, none⟩ (.bool true) := ⟨_, rfl⟩
          obtain ⟨k8, b8⟩ := ((((HB.start K7.out).set 10 (.int .i64 h) (by simp [phC])).set 11 (.bool true) (by simp [phC])).is (show _ = phC pt ⟨(j : Int), (j : Int), 0, upd T j (T j + 1), h, true, lg⟩ from rfl)).fin (v' := w8) (by rw [ew8]) (by rw [ew8]) (by rw [ew8]) (by rw [ew8])
          have bs8 := Lib.hid (bs7.out.trans b8)
          replace ew8 := Lib.hid ew8
          have K8 := Lib.hid k8
          have r8 := k8.c 1 _ rfl
          try dsimp only at r8
          clear k8 b8
          go_upto_region 14 with (fail)
          rw [← ew8.out]
          go_wp2
          go_ret
          have eZ : phZ pt ⟨(i : Int), a, n, T, hv, true, lg⟩ (j : Int) h = ⟨(j : Int), (j : Int), 0, upd T j (T j + 1), h, true, lg⟩ :=
            phZ_is (q := j) (by simp [phP, hG.out]) (by simp [hG.out, hN]) (by rw [if_neg hz0.out, if_neg (fun q => by have := q.2; dsimp only at this; omega)]) (by have z := hz0.out; simp; try omega) (by rw [if_neg (fun q => y2.out q.2.2)])
          have eP : phP pt ⟨(i : Int), a, n, T, hv, true, lg⟩ (j : Int) = (j : Int) := by simp [phP, hG.out]
          exact ⟨(show Ending.returned (.int .i64 (j : Int)) = .returned (.int .i64 (phP pt ⟨(i : Int), a, n, T, hv, true, lg⟩ (j : Int))) from by rw [eP]), by rw [eZ]; exact K8.out, bs8.out⟩
        · subst e1
          go_wp2
          go_ret
          have eZ : phZ pt ⟨(i : Int), a, n, T, hv, true, lg⟩ (j : Int) h = ⟨(j : Int), (j : Int), 0, upd T j (T j + 1), hv, true, lg⟩ :=
            phZ_is (q := j) (by simp [phP, hG.out]) (by simp [hG.out, hN]) (by rw [if_neg hz0.out, if_pos ⟨rfl, e2⟩]) (by simp) (by rw [if_neg (fun q => y2.out q.2.2)])
          have eP : phP pt ⟨(i : Int), a, n, T, hv, true, lg⟩ (j : Int) = (j : Int) := by simp [phP, hG.out]
          exact ⟨(show Ending.returned (.int .i64 (j : Int)) = .returned (.int .i64 (phP pt ⟨(i : Int), a, n, T, hv, true, lg⟩ (j : Int))) from by rw [eP]), by rw [eZ]; exact K6.out, bs6.out⟩
    · have K2 := Lib.hid kk
      clear kk
      have x1 : ((i : Int) == 5) = false := beq_eq_false_iff_ne.2 y1
      replace y1 := Lib.hid y1
      have hne2 := Lib.hid hne
      clear hne
      obtain ⟨w3, ew3⟩ : ∃ w3, w3 = ((w2.setCell ⟨b, 1, none⟩ (.int .i64 (j : Int))).setCell ⟨b, 3, none⟩ (.int .i64 0)) := ⟨_, rfl⟩
      obtain ⟨k3, b3⟩ := ((((HB.start K2.out).set 1 (.int .i64 (j : Int)) (by simp [phC])).set 3 (.int .i64 0) (by simp [phC])).is (show _ = phC pt ⟨(j : Int), (j : Int), 0, T, hv, hk, lg⟩ from rfl)).fin (v' := w3) (by rw [ew3]) (by rw [ew3]) (by rw [ew3]) (by rw [ew3])
      replace hx : w3.cell? ⟨w.heap.size, 1, none⟩ = some (.int .i64 h) := (World.cell?_of_block (a := ⟨w.heap.size, 1, none⟩) (b3.block w.heap.size (cell_lt hx) (by omega))).trans hx
      replace bs2 := Lib.hid (bs2.out.trans b3)
      replace ew3 := Lib.hid ew3
      have K3 := Lib.hid k3
      clear k3 b3
      go_upto_region 9 with (fail)
      rw [← ew3.out]
      have kk := K3.out
      clear K3 K2 c0 c1 c2 c3 c4 c5 c6 c7 c8 c9 c10 c11 c12 f0 f1 f2 f3 f4 f5 f6 f7 f8 f9 f10 f11 f12
      have q1 := kk.c 1 _ rfl
      obtain ⟨qc, qf⟩ := phC_at kk hj5
      try dsimp only at qc q1
      have e5 : (j : Int) < 6 := by omega
      have ew : IntKind.i64.wrap (T j + 1) = T j + 1 := IntWalk.i64_in _ ⟨by have := t0 j; omega, by have := t1 j; omega⟩
      have KK := Lib.hid kk
      have HX := Lib.hid hx
      clear kk hx
      go_wp2_with fail
      refine region_moves (fun u => u.cell? ⟨b, 1, none⟩ = some (.int .i64 (j : Int)) ∧ u.cell? ⟨b, 4 + j, none⟩ = some (.int .i64 (T j))) [(13, [(12, 13), (9, 13), (0, 13), (1, 13), (2, 13), (3, 13), (4, 13), (5, 13), (6, 13), (7, 13), (8, 13), (11, 12), (10, 11)])] [(.free, 0), (.free, 1), (.free, 2), (.free, 3), (.take, 4), (.free, 5), (.free, 6), (.free, 7), (.take, 8), (.free, 9), (.free, 10), (.free, 11), (.free, 12), (.late, 13)] _ (by kernel_rfl) (by kernel_rfl) (by kernel_rfl) (by kernel_rfl) (by decide) rfl (fun _ _ _ _ _ h => h) ?_
      simp only [List.filterMap_cons, List.filterMap_nil, List.getElem?_toArray, List.getElem?_cons_zero, List.getElem?_cons_succ, Option.map_some]
      iterate 4
        first
          | (refine mv_free ?_ (Or.inl ⟨by rfl, ?_⟩) (⟨q1, qc⟩) ?_
             rotate_left 1
             · intro u
               go_simp
               try with_reducible rfl
             simp only [Act.put, List.setIfInBounds_toArray, List.set_cons_zero, List.set_cons_succ])
          | (refine mv_free _ (Or.inr ⟨by rfl, rfl⟩) (⟨q1, qc⟩) ?_
             simp only [Act.put, List.setIfInBounds_toArray, List.set_cons_zero, List.set_cons_succ])
      iterate 1
        first
          | (refine mv_take ?_ (Or.inl ⟨by rfl, ?_⟩) (⟨q1, qc⟩) ?_
             rotate_left 1
             · intro u hu
               (try dsimp only at hu)
               go_simp
               try with_reducible rfl
             simp only [Act.put, List.setIfInBounds_toArray, List.set_cons_zero, List.set_cons_succ])
          | (refine mv_take _ (Or.inr ⟨by rfl, rfl⟩) (⟨q1, qc⟩) ?_
             simp only [Act.put, List.setIfInBounds_toArray, List.set_cons_zero, List.set_cons_succ])
      iterate 3
        first
          | (refine mv_free ?_ (Or.inl ⟨by rfl, ?_⟩) (⟨q1, qc⟩) ?_
             rotate_left 1
             · intro u
               go_simp
               try with_reducible rfl
             simp only [Act.put, List.setIfInBounds_toArray, List.set_cons_zero, List.set_cons_succ])
          | (refine mv_free _ (Or.inr ⟨by rfl, rfl⟩) (⟨q1, qc⟩) ?_
             simp only [Act.put, List.setIfInBounds_toArray, List.set_cons_zero, List.set_cons_succ])
      iterate 1
        first
          | (refine mv_take ?_ (Or.inl ⟨by rfl, ?_⟩) (⟨q1, qc⟩) ?_
             rotate_left 1
             · intro u hu
               (try dsimp only at hu)
               go_simp
               try with_reducible rfl
             simp only [Act.put, List.setIfInBounds_toArray, List.set_cons_zero, List.set_cons_succ])
          | (refine mv_take _ (Or.inr ⟨by rfl, rfl⟩) (⟨q1, qc⟩) ?_
             simp only [Act.put, List.setIfInBounds_toArray, List.set_cons_zero, List.set_cons_succ])
      iterate 4
        first
          | (refine mv_free ?_ (Or.inl ⟨by rfl, ?_⟩) (⟨q1, qc⟩) ?_
             rotate_left 1
             · intro u
               go_simp
               try with_reducible rfl
             simp only [Act.put, List.setIfInBounds_toArray, List.set_cons_zero, List.set_cons_succ])
          | (refine mv_free _ (Or.inr ⟨by rfl, rfl⟩) (⟨q1, qc⟩) ?_
             simp only [Act.put, List.setIfInBounds_toArray, List.set_cons_zero, List.set_cons_succ])
      refine mv_late (fun K hK => ?_)
      go_simp
      refine hK.out (fun _ => True) _ _ ?_
      clear hK K
      refine mv_done ?_
      obtain ⟨w5, ew5⟩ : ∃ w5, w5 = (w3.setCell ⟨b, 4 + j, none⟩ (.int .i64 (T j + 1))).drew := ⟨_, rfl⟩
      obtain ⟨k2, b2⟩ := (((HB.start KK.out).set (4 + j) (.int .i64 (T j + 1)) (by simp [phC]; omega)).is (phC_up pt ⟨(j : Int), (j : Int), 0, T, hv, hk, lg⟩ hj5 (T j + 1))).fin (v' := w5) (by rw [ew5]; rfl) (by rw [ew5]; rfl) (by rw [ew5]; rfl) (by rw [ew5]; rfl)
      have hx5 : w5.cell? ⟨w.heap.size, 1, none⟩ = some (.int .i64 h) := (World.cell?_of_block (a := ⟨w.heap.size, 1, none⟩) (b2.block w.heap.size (cell_lt HX.out) (by omega))).trans HX.out
      rw [← ew5]
      have bs5 := Lib.hid (bs2.out.trans b2)
      replace ew5 := Lib.hid ew5
      clear q1 qc qf KK b2 ew HX
      have K5 := Lib.hid k2
      obtain ⟨c0, f0⟩ := k2.one 0 rfl
      obtain ⟨c1, f1⟩ := k2.one 1 rfl
      obtain ⟨c2, f2⟩ := k2.one 2 rfl
      obtain ⟨c3, f3⟩ := k2.one 3 rfl
      obtain ⟨c4, f4⟩ := k2.one 4 rfl
      obtain ⟨c5, f5⟩ := k2.one 5 rfl
      obtain ⟨c6, f6⟩ := k2.one 6 rfl
      obtain ⟨c7, f7⟩ := k2.one 7 rfl
      obtain ⟨c8, f8⟩ := k2.one 8 rfl
      obtain ⟨c9, f9⟩ := k2.one 9 rfl
      obtain ⟨c10, f10⟩ := k2.one 10 rfl
      obtain ⟨c11, f11⟩ := k2.one 11 rfl
      obtain ⟨c12, f12⟩ := k2.one 12 rfl
      clear k2
      rcases (show (j : Int) = 0 ∨ ((j : Int) ≠ 0) by omega) with z | z
      · have z1 : ((j : Int) != 0) = false := by simp [z]
        have hz0 := Lib.hid z
        clear z
        go_wp2
        go_ret
        have eZ : phZ pt ⟨(i : Int), a, n, T, hv, hk, lg⟩ (j : Int) h = ⟨(j : Int), (j : Int), 0, upd T j (T j + 1), hv, hk, lg⟩ :=
          phZ_is (q := j) (by simp [phP, hG.out]) (by simp [hG.out, hN]) (by rw [if_pos hz0.out]) (by simp [hz0.out]) (by rw [if_neg (fun q => y1.out q.2.1)])
        have eP : phP pt ⟨(i : Int), a, n, T, hv, hk, lg⟩ (j : Int) = (j : Int) := by simp [phP, hG.out]
        exact ⟨(show Ending.returned (.int .i64 (j : Int)) = .returned (.int .i64 (phP pt ⟨(i : Int), a, n, T, hv, hk, lg⟩ (j : Int))) from by rw [eP]), by rw [eZ]; exact K5.out, bs5.out⟩
      · have z1 : ((j : Int) != 0) = true := bne_iff_ne.2 z
        have hz0 := Lib.hid z
        clear z
        go_wp2_with fail
        refine (oget_any _ _ _).mono ?_
        rintro e w6 ⟨rfl, hb6⟩
        have K6 := Lib.hid (K5.out.bel hb6)
        have bs6 := Lib.hid (bs5.out.trans (.of_below hb6))
        have hx6 : w6.cell? ⟨w.heap.size, 1, none⟩ = some (.int .i64 h) := (bc hb6 (cell_lt hx5)).trans hx5
        clear hb6 hx5 K5 bs5 c0 c1 c2 c3 c4 c5 c6 c7 c8 c9 c10 c11 c12 f0 f1 f2 f3 f4 f5 f6 f7 f8 f9 f10 f11 f12
        have k6 := K6.out
        obtain ⟨c0, f0⟩ := k6.one 0 rfl
        obtain ⟨c1, f1⟩ := k6.one 1 rfl
        obtain ⟨c2, f2⟩ := k6.one 2 rfl
        obtain ⟨c3, f3⟩ := k6.one 3 rfl
        obtain ⟨c4, f4⟩ := k6.one 4 rfl
        obtain ⟨c5, f5⟩ := k6.one 5 rfl
        obtain ⟨c6, f6⟩ := k6.one 6 rfl
        obtain ⟨c7, f7⟩ := k6.one 7 rfl
        obtain ⟨c8, f8⟩ := k6.one 8 rfl
        obtain ⟨c9, f9⟩ := k6.one 9 rfl
        obtain ⟨c10, f10⟩ := k6.one 10 rfl
        obtain ⟨c11, f11⟩ := k6.one 11 rfl
        obtain ⟨c12, f12⟩ := k6.one 12 rfl
        clear k6
        rcases (show hk = false ∨ (hk = true ∧ hv < h) ∨ (hk = true ∧ h ≤ hv) by cases hk <;> simp <;> omega) with e1 | ⟨e1, e2⟩ | ⟨e1, e2⟩
        · subst e1
          go_wp2_with fail
          refine (oof_any _ _).mono ?_
          rintro e w7 ⟨rfl, hb7⟩
          have k7 := K6.out.bel hb7
          have bs7 := Lib.hid (bs6.out.trans (.of_below hb7))
          have K7 := Lib.hid k7
          clear hb7 c0 c1 c2 c3 c4 c5 c6 c7 c8 c9 c10 c11 c12 f0 f1 f2 f3 f4 f5 f6 f7 f8 f9 f10 f11 f12
          obtain ⟨c0, f0⟩ := k7.one 0 rfl
          obtain ⟨c1, f1⟩ := k7.one 1 rfl
          obtain ⟨c2, f2⟩ := k7.one 2 rfl
          obtain ⟨c3, f3⟩ := k7.one 3 rfl
          obtain ⟨c4, f4⟩ := k7.one 4 rfl
          obtain ⟨c5, f5⟩ := k7.one 5 rfl
          obtain ⟨c6, f6⟩ := k7.one 6 rfl
          obtain ⟨c7, f7⟩ := k7.one 7 rfl
          obtain ⟨c8, f8⟩ := k7.one 8 rfl
          obtain ⟨c9, f9⟩ := k7.one 9 rfl
          obtain ⟨c10, f10⟩ := k7.one 10 rfl
          obtain ⟨c11, f11⟩ := k7.one 11 rfl
          obtain ⟨c12, f12⟩ := k7.one 12 rfl
          clear k7
          obtain ⟨w8, ew8⟩ : ∃ w8, w8 = (w7.setCell ⟨b, 10, none⟩ (.int .i64 h)).setCell ⟨b, 11, none⟩ (.bool true) := ⟨_, rfl⟩
          obtain ⟨k8, b8⟩ := ((((HB.start K7.out).set 10 (.int .i64 h) (by simp [phC])).set 11 (.bool true) (by simp [phC])).is (show _ = phC pt ⟨(j : Int), (j : Int), 0, upd T j (T j + 1), h, true, lg⟩ from rfl)).fin (v' := w8) (by rw [ew8]) (by rw [ew8]) (by rw [ew8]) (by rw [ew8])
          have bs8 := Lib.hid (bs7.out.trans b8)
          replace ew8 := Lib.hid ew8
          have K8 := Lib.hid k8
          have r8 := k8.c 1 _ rfl
          try dsimp only at r8
          clear k8 b8
          go_upto_region 14 with (fail)
          rw [← ew8.out]
          go_wp2
          go_ret
          have eZ : phZ pt ⟨(i : Int), a, n, T, hv, false, lg⟩ (j : Int) h = ⟨(j : Int), (j : Int), 0, upd T j (T j + 1), h, true, lg⟩ :=
            phZ_is (q := j) (by simp [phP, hG.out]) (by simp [hG.out, hN]) (by rw [if_neg hz0.out]; simp) (by have z := hz0.out; simp; try omega) (by rw [if_neg (fun q => y1.out q.2.1)])
          have eP : phP pt ⟨(i : Int), a, n, T, hv, false, lg⟩ (j : Int) = (j : Int) := by simp [phP, hG.out]
          exact ⟨(show Ending.returned (.int .i64 (j : Int)) = .returned (.int .i64 (phP pt ⟨(i : Int), a, n, T, hv, false, lg⟩ (j : Int))) from by rw [eP]), by rw [eZ]; exact K8.out, bs8.out⟩
        · subst e1
          go_wp2_with fail
          refine (oof_any _ _).mono ?_
          rintro e w7 ⟨rfl, hb7⟩
          have k7 := K6.out.bel hb7
          have bs7 := Lib.hid (bs6.out.trans (.of_below hb7))
          have K7 := Lib.hid k7
          clear hb7 c0 c1 c2 c3 c4 c5 c6 c7 c8 c9 c10 c11 c12 f0 f1 f2 f3 f4 f5 f6 f7 f8 f9 f10 f11 f12
          obtain ⟨c0, f0⟩ := k7.one 0 rfl
          obtain ⟨c1, f1⟩ := k7.one 1 rfl
          obtain ⟨c2, f2⟩ := k7.one 2 rfl
          obtain ⟨c3, f3⟩ := k7.one 3 rfl
          obtain ⟨c4, f4⟩ := k7.one 4 rfl
          obtain ⟨c5, f5⟩ := k7.one 5 rfl
          obtain ⟨c6, f6⟩ := k7.one 6 rfl
          obtain ⟨c7, f7⟩ := k7.one 7 rfl
          obtain ⟨c8, f8⟩ := k7.one 8 rfl
          obtain ⟨c9, f9⟩ := k7.one 9 rfl
          obtain ⟨c10, f10⟩ := k7.one 10 rfl
          obtain ⟨c11, f11⟩ := k7.one 11 rfl
          obtain ⟨c12, f12⟩ := k7.one 12 rfl
          clear k7
          obtain ⟨w8, ew8⟩ : ∃ w8, w8 = (w7.setCell ⟨b, 10, none⟩ (.int .i64 h)).setCell ⟨b, 11, none⟩ (.bool true) := ⟨_, rfl⟩
          obtain ⟨k8, b8⟩ := ((((HB.start K7.out).set 10 (.int .i64 h) (by simp [phC])).set 11 (.bool true) (by simp [phC])).is (show _ = phC pt ⟨(j : Int), (j : Int), 0, upd T j (T j + 1), h, true, lg⟩ from rfl)).fin (v' := w8) (by rw [ew8]) (by rw [ew8]) (by rw [ew8]) (by rw [ew8])
          have bs8 := Lib.hid (bs7.out.trans b8)
          replace ew8 := Lib.hid ew8
          have K8 := Lib.hid k8
          have r8 := k8.c 1 _ rfl
          try dsimp only at r8
          clear k8 b8
          go_upto_region 14 with (fail)
          rw [← ew8.out]
          go_wp2
          go_ret
          have eZ : phZ pt ⟨(i : Int), a, n, T, hv, true, lg⟩ (j : Int) h = ⟨(j : Int), (j : Int), 0, upd T j (T j + 1), h, true, lg⟩ :=
            phZ_is (q := j) (by simp [phP, hG.out]) (by simp [hG.out, hN]) (by rw [if_neg hz0.out, if_neg (fun q => by have := q.2; dsimp only at this; omega)]) (by have z := hz0.out; simp; try omega) (by rw [if_neg (fun q => y1.out q.2.1)])
          have eP : phP pt ⟨(i : Int), a, n, T, hv, true, lg⟩ (j : Int) = (j : Int) := by simp [phP, hG.out]
          exact ⟨(show Ending.returned (.int .i64 (j : Int)) = .returned (.int .i64 (phP pt ⟨(i : Int), a, n, T, hv, true, lg⟩ (j : Int))) from by rw [eP]), by rw [eZ]; exact K8.out, bs8.out⟩
        · subst e1
          go_wp2
          go_ret
          have eZ : phZ pt ⟨(i : Int), a, n, T, hv, true, lg⟩ (j : Int) h = ⟨(j : Int), (j : Int), 0, upd T j (T j + 1), hv, true, lg⟩ :=
            phZ_is (q := j) (by simp [phP, hG.out]) (by simp [hG.out, hN]) (by rw [if_neg hz0.out, if_pos ⟨rfl, e2⟩]) (by simp) (by rw [if_neg (fun q => y1.out q.2.1)])
          have eP : phP pt ⟨(i : Int), a, n, T, hv, true, lg⟩ (j : Int) = (j : Int) := by simp [phP, hG.out]
          exact ⟨(show Ending.returned (.int .i64 (j : Int)) = .returned (.int .i64 (phP pt ⟨(i : Int), a, n, T, hv, true, lg⟩ (j : Int))) from by rw [eP]), by rw [eZ]; exact K6.out, bs6.out⟩
end Go.Proofs.Ytlhejkaedgelnaa
