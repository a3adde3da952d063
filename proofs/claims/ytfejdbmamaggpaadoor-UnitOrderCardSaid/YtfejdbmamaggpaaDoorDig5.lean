/- The document's rows of digits: long division; walked. -/
import Derived.Test.YtfejdbmamaggpaaDoorDig3
import Derived.Deep.Cut
import Derived.Test.YtfejdbmamaggpaaDoorDig4
namespace Go.Proofs.YtfejdbmamaggpaaDoor
open Go.ChangeShapes Go.WideShapes Go.ChangeAt Go.RowKit
set_option linter.unusedVariables false
set_option linter.unusedSimpArgs false

/-- What a division has in memory: both numbers, two results, the quotient and what is left. -/
structure Six (s : Nat) (A B : Int) (q r : Nat → Int) (w v : World) : Prop where
  a : Rw s (dg A) v
  b : Rw (s + 1) (dg B) v
  y : Rw (s + 2) (fun _ => 0) v
  z : Rw (s + 3) (fun _ => 0) v
  q : Rw (s + 4) q v
  r : Rw (s + 5) r v
  bel : Below s w v
theorem Six.go {s : Nat} {A B : Int} {q r : Nat → Int} {w v v' : World} (h : Six s A B q r w v) (k : Below v.heap.size v v') : Six s A B q r w v' :=
  ⟨h.a.bel k, h.b.bel k, h.y.bel k, h.z.bel k, h.q.bel k, h.r.bel k, h.bel.trans (k.mono (Nat.le_of_lt h.a.lt))⟩
theorem Six.drew {s : Nat} {A B : Int} {q r : Nat → Int} {w v : World} (h : Six s A B q r w v) : Six s A B q r w v.drew := ⟨h.a.drew, h.b.drew, h.y.drew, h.z.drew, h.q.drew, h.r.drew, h.bel.drew⟩
theorem Six.putR {s : Nat} {A B : Int} {q r : Nat → Int} {w v : World} (h : Six s A B q r w v) (g : Nat → Int) : Six s A B q g w (rput (s + 5) g v) :=
  ⟨h.a.puto (by omega) g, h.b.puto (by omega) g, h.y.puto (by omega) g, h.z.puto (by omega) g, h.q.puto (by omega) g, h.r.put g, rput_below h.bel (by omega) g⟩
theorem Six.putQ {s : Nat} {A B : Int} {q r : Nat → Int} {w v : World} (h : Six s A B q r w v) (g : Nat → Int) : Six s A B g r w (rput (s + 4) g v) :=
  ⟨h.a.puto (by omega) g, h.b.puto (by omega) g, h.y.puto (by omega) g, h.z.puto (by omega) g, h.q.put g, h.r.puto (by omega) g, rput_below h.bel (by omega) g⟩
theorem Six.setR {s : Nat} {A B : Int} {q r : Nat → Int} {w v : World} (h : Six s A B q r w v) (i : Nat) (x : Int) (hi : i < 12) : Six s A B q (upd r i x) w (v.setCell ⟨s + 5, i, none⟩ (.int .u64 x)) :=
  ⟨h.a.other (by omega) _ _, h.b.other (by omega) _ _, h.y.other (by omega) _ _, h.z.other (by omega) _ _, h.q.other (by omega) _ _, h.r.set i x hi, h.bel.setCell (p := ⟨s + 5, i, none⟩) (by show s ≤ s + 5; omega) _⟩
theorem Six.setQ {s : Nat} {A B : Int} {q r : Nat → Int} {w v : World} (h : Six s A B q r w v) (i : Nat) (x : Int) (hi : i < 12) : Six s A B (upd q i x) r w (v.setCell ⟨s + 4, i, none⟩ (.int .u64 x)) :=
  ⟨h.a.other (by omega) _ _, h.b.other (by omega) _ _, h.y.other (by omega) _ _, h.z.other (by omega) _ _, h.q.set i x hi, h.r.other (by omega) _ _, h.bel.setCell (p := ⟨s + 4, i, none⟩) (by show s ≤ s + 4; omega) _⟩
theorem Six.congr {s : Nat} {A B : Int} {q r q' r' : Nat → Int} {w v : World} (h : Six s A B q r w v) (eq : ∀ i, i < 12 → q i = q' i) (er : ∀ i, i < 12 → r i = r' i) : Six s A B q' r' w v := ⟨h.a, h.b, h.y, h.z, h.q.congr eq, h.r.congr er, h.bel⟩

theorem dg_bit_plus {R x : Int} (h0 : 0 ≤ R) (h1 : 2 * R + 1 < pw 12) (hx0 : 0 ≤ x) (hx1 : x ≤ 1) : (dg (2 * R) 0 + x < 65536) ∧ ∀ i, i < 12 → upd (dg (2 * R)) 0 (dg (2 * R) 0 + x) i = dg (2 * R + x) i := by
  have e : dg (2 * R) 0 = 2 * R % 65536 := by simp [dg, pw]
  have hb := dg_bd (2 * R) 0
  refine ⟨by omega, digits_of ((dg_ds _ 12).upd 0 (by omega) (by omega)) ?_⟩
  rw [sm_upd _ 0 _ 12 (by omega), sm_dg12 (by omega) (by omega)]
  simp [pw]
  omega

set_option maxRecDepth 100000 in
set_option maxHeartbeats 8000000 in
theorem rdiv_any (A B : Int) (w : World) (hA0 : 0 ≤ A) (hA1 : A ≤ 85070591730234615865843651857942052864) (hB0 : 0 < B) (hB1 : B ≤ 9223372036854775808) :
    Calls Tryd.prog 113 #[rwv A, rwv B] w fun e w' => e = .returned (.tuple #[rwv (A / B), rwv (A % B)]) ∧ Below w.heap.size w w' := by
  have h12 : 340282366920938463463374607431768211456 < pw 12 := by rw [pw_12]; decide
  have h144 : A < p2 144 := Int.lt_of_le_of_lt hA1 (by decide)
  have z144 : A / p2 144 = 0 := Int.ediv_eq_zero_of_lt hA0 h144
  have HB : ∀ k, Hid (0 ≤ A / p2 k ∧ A / p2 k ≤ A) := fun k => Lib.hid ⟨Int.ediv_nonneg hA0 (by have := p2_pos k; omega), Int.ediv_le_self _ hA0⟩
  have HN := Lib.hid (show (0 ≤ A ∧ A ≤ 85070591730234615865843651857942052864) ∧ (0 < B ∧ B ≤ 9223372036854775808) ∧ 340282366920938463463374607431768211456 < pw 12 from ⟨⟨hA0, hA1⟩, ⟨hB0, hB1⟩, h12⟩)
  have HZ := Lib.hid z144
  clear h12 h144 z144 hA0 hA1 hB0 hB1
  replace HB := Lib.hid HB
  go_enter Tryd.func113, Tryd.ntmps113
  go_wp2
  go_loopw [8] (fun i v => ∃ k : Nat, k ≤ 144 ∧ i = .int .i64 ((k : Int) - 1) ∧ Six w.heap.size A B (dg (A / p2 k / B)) (dg (A / p2 k % B)) w v) (fun i _ => (intOf i + 1).toNat)
  case atStart =>
    refine ⟨144, by omega, rfl, ?_⟩
    rw [HZ.out, show (0 : Int) / B = 0 by simp, show (0 : Int) % B = 0 by simp]
    have e0 : ∀ i, i < 12 → (fun _ : Nat => (0 : Int)) i = dg 0 i := fun i _ => (dg_zero i).symm
    exact ⟨(((((Rw.new w (dg A) 160).alloc _).alloc _).alloc _).alloc _).alloc _, ((((Rw.new' (dg B) 160 (by simp)).alloc _).alloc _).alloc _).alloc _, (((Rw.new' (fun _ => 0) 160 (by simp)).alloc _).alloc _).alloc _, ((Rw.new' (fun _ => 0) 160 (by simp)).alloc _).alloc _, ((Rw.new' (fun _ => 0) 160 (by simp)).alloc _).congr e0, (Rw.new' (fun _ => 0) 160 (by simp)).congr e0, (by repeat (first | exact Below.refl _ _ | assumption | apply Below.drew | apply below_drewN | (refine Below.alloc ?_ (by first | exact Nat.le_refl _ | omega | (simp <;> omega)) _) | (refine Below.setCell ?_ (by first | exact Nat.le_refl _ | omega | (simp <;> omega)) _)))⟩
  case round =>
    obtain ⟨k, hk, rfl, hX⟩ := hrel
    cases k with
    | zero =>
      rw [show A / p2 0 = A by simp [p2]] at hX
      obtain ⟨c0, c1, c2, c3, c4, c5, c6, c7, c8, c9, c10, c11⟩ := hX.q.all
      obtain ⟨d0, d1, d2, d3, d4, d5, d6, d7, d8, d9, d10, d11⟩ := hX.r.all
      go_wp2_with fail
      obtain ⟨y0, y1, y2, y3, y4, y5, y6, y7, y8, y9, y10, y11⟩ := hX.y.all
      obtain ⟨z0, z1, z2, z3, z4, z5, z6, z7, z8, z9, z10, z11⟩ := hX.y.allf
      refine region_moves (fun u => (u.cell? ⟨w.heap.size + 4, 0, none⟩ = some (.int .u64 (dg (A / B) 0)) ∧ u.cell? ⟨w.heap.size + 4, 1, none⟩ = some (.int .u64 (dg (A / B) 1)) ∧ u.cell? ⟨w.heap.size + 4, 2, none⟩ = some (.int .u64 (dg (A / B) 2)) ∧ u.cell? ⟨w.heap.size + 4, 3, none⟩ = some (.int .u64 (dg (A / B) 3)) ∧ u.cell? ⟨w.heap.size + 4, 4, none⟩ = some (.int .u64 (dg (A / B) 4)) ∧ u.cell? ⟨w.heap.size + 4, 5, none⟩ = some (.int .u64 (dg (A / B) 5)) ∧ u.cell? ⟨w.heap.size + 4, 6, none⟩ = some (.int .u64 (dg (A / B) 6)) ∧ u.cell? ⟨w.heap.size + 4, 7, none⟩ = some (.int .u64 (dg (A / B) 7)) ∧ u.cell? ⟨w.heap.size + 4, 8, none⟩ = some (.int .u64 (dg (A / B) 8)) ∧ u.cell? ⟨w.heap.size + 4, 9, none⟩ = some (.int .u64 (dg (A / B) 9)) ∧ u.cell? ⟨w.heap.size + 4, 10, none⟩ = some (.int .u64 (dg (A / B) 10)) ∧ u.cell? ⟨w.heap.size + 4, 11, none⟩ = some (.int .u64 (dg (A / B) 11))) ∧ (u.cell? ⟨w.heap.size + 5, 0, none⟩ = some (.int .u64 (dg (A % B) 0)) ∧ u.cell? ⟨w.heap.size + 5, 1, none⟩ = some (.int .u64 (dg (A % B) 1)) ∧ u.cell? ⟨w.heap.size + 5, 2, none⟩ = some (.int .u64 (dg (A % B) 2)) ∧ u.cell? ⟨w.heap.size + 5, 3, none⟩ = some (.int .u64 (dg (A % B) 3)) ∧ u.cell? ⟨w.heap.size + 5, 4, none⟩ = some (.int .u64 (dg (A % B) 4)) ∧ u.cell? ⟨w.heap.size + 5, 5, none⟩ = some (.int .u64 (dg (A % B) 5)) ∧ u.cell? ⟨w.heap.size + 5, 6, none⟩ = some (.int .u64 (dg (A % B) 6)) ∧ u.cell? ⟨w.heap.size + 5, 7, none⟩ = some (.int .u64 (dg (A % B) 7)) ∧ u.cell? ⟨w.heap.size + 5, 8, none⟩ = some (.int .u64 (dg (A % B) 8)) ∧ u.cell? ⟨w.heap.size + 5, 9, none⟩ = some (.int .u64 (dg (A % B) 9)) ∧ u.cell? ⟨w.heap.size + 5, 10, none⟩ = some (.int .u64 (dg (A % B) 10)) ∧ u.cell? ⟨w.heap.size + 5, 11, none⟩ = some (.int .u64 (dg (A % B) 11)))) [] [(.take, 0), (.take, 1), (.step, 2), (.step, 3)] _ (by kernel_rfl) (by kernel_rfl) (by kernel_rfl) (by kernel_rfl) (by decide) rfl (fun _ _ _ _ _ h => h) ?_
      simp only [List.filterMap_cons, List.filterMap_nil, List.getElem?_toArray, List.getElem?_cons_zero, List.getElem?_cons_succ, Option.map_some]
      iterate 2
        first
          | (refine mv_take ?_ (Or.inl ⟨by rfl, ?_⟩) (⟨⟨c0, c1, c2, c3, c4, c5, c6, c7, c8, c9, c10, c11⟩, ⟨d0, d1, d2, d3, d4, d5, d6, d7, d8, d9, d10, d11⟩⟩) ?_
             rotate_left 1
             · intro u hu
               (try dsimp only at hu)
               go_simp
               try with_reducible rfl
             simp only [Act.put, List.setIfInBounds_toArray, List.set_cons_zero, List.set_cons_succ])
          | (refine mv_take _ (Or.inr ⟨by rfl, rfl⟩) (⟨⟨c0, c1, c2, c3, c4, c5, c6, c7, c8, c9, c10, c11⟩, ⟨d0, d1, d2, d3, d4, d5, d6, d7, d8, d9, d10, d11⟩⟩) ?_
             simp only [Act.put, List.setIfInBounds_toArray, List.set_cons_zero, List.set_cons_succ])
      refine mv_step (fun K hK => ?_)
      go_simp
      clear c0 c1 c2 c3 c4 c5 c6 c7 c8 c9 c10 c11 d0 d1 d2 d3 d4 d5 d6 d7 d8 d9 d10 d11
      obtain ⟨c0, c1, c2, c3, c4, c5, c6, c7, c8, c9, c10, c11⟩ := (hX.q.puto (show w.heap.size + 4 ≠ w.heap.size + 2 by omega) (dg (A / B))).drew.all
      obtain ⟨d0, d1, d2, d3, d4, d5, d6, d7, d8, d9, d10, d11⟩ := (hX.r.puto (show w.heap.size + 5 ≠ w.heap.size + 2 by omega) (dg (A / B))).drew.all
      refine hK.out _ _ _ (fun u hu => hu) (⟨⟨c0, c1, c2, c3, c4, c5, c6, c7, c8, c9, c10, c11⟩, ⟨d0, d1, d2, d3, d4, d5, d6, d7, d8, d9, d10, d11⟩⟩) ?_
      clear hK K
      change wpMoves _ _ _ _ _ _ (rput (w.heap.size + 2) (dg (A / B)) wr).drew
      have hy := hX.y.put (dg (A / B))
      have hz := hX.z.puto (show w.heap.size + 3 ≠ w.heap.size + 2 by omega) (dg (A / B))
      have hq := (hX.q.puto (show w.heap.size + 4 ≠ w.heap.size + 2 by omega) (dg (A / B)))
      have hr := (hX.r.puto (show w.heap.size + 5 ≠ w.heap.size + 2 by omega) (dg (A / B)))
      have hb := rput_below hX.bel (show w.heap.size ≤ w.heap.size + 2 by omega) (dg (A / B))
      clear hX c0 c1 c2 c3 c4 c5 c6 c7 c8 c9 c10 c11 d0 d1 d2 d3 d4 d5 d6 d7 d8 d9 d10 d11 y0 y1 y2 y3 y4 y5 y6 y7 y8 y9 y10 y11 z0 z1 z2 z3 z4 z5 z6 z7 z8 z9 z10 z11
      generalize rput (w.heap.size + 2) (dg (A / B)) wr = v1 at *
      obtain ⟨y0, y1, y2, y3, y4, y5, y6, y7, y8, y9, y10, y11⟩ := hz.all
      obtain ⟨z0, z1, z2, z3, z4, z5, z6, z7, z8, z9, z10, z11⟩ := hz.allf
      refine mv_step (fun K hK => ?_)
      go_simp
      obtain ⟨c0, c1, c2, c3, c4, c5, c6, c7, c8, c9, c10, c11⟩ := (hq.puto (show w.heap.size + 4 ≠ w.heap.size + 3 by omega) (dg (A % B))).drew.all
      obtain ⟨d0, d1, d2, d3, d4, d5, d6, d7, d8, d9, d10, d11⟩ := (hr.puto (show w.heap.size + 5 ≠ w.heap.size + 3 by omega) (dg (A % B))).drew.all
      refine hK.out _ _ _ (fun u hu => hu) (⟨⟨c0, c1, c2, c3, c4, c5, c6, c7, c8, c9, c10, c11⟩, ⟨d0, d1, d2, d3, d4, d5, d6, d7, d8, d9, d10, d11⟩⟩) ?_
      clear hK K
      refine mv_done ?_
      change Exit.then _ _ _ _ (rput (w.heap.size + 3) (dg (A % B)) v1).drew
      replace hy := hy.puto (show w.heap.size + 2 ≠ w.heap.size + 3 by omega) (dg (A % B))
      replace hz := hz.put (dg (A % B))
      replace hb := rput_below hb (show w.heap.size ≤ w.heap.size + 3 by omega) (dg (A % B))
      clear hq hr c0 c1 c2 c3 c4 c5 c6 c7 c8 c9 c10 c11 d0 d1 d2 d3 d4 d5 d6 d7 d8 d9 d10 d11 y0 y1 y2 y3 y4 y5 y6 y7 y8 y9 y10 y11 z0 z1 z2 z3 z4 z5 z6 z7 z8 z9 z10 z11
      generalize rput (w.heap.size + 3) (dg (A % B)) v1 = v2 at *
      go_wp2
      obtain ⟨c0, c1, c2, c3, c4, c5, c6, c7, c8, c9, c10, c11⟩ := hy.all
      obtain ⟨d0, d1, d2, d3, d4, d5, d6, d7, d8, d9, d10, d11⟩ := hz.all
      refine bodyPost_ret (v := .tuple #[rwv (A / B), rwv (A % B)]) (by simp [results, Tryd.results113, go_sem, rwv, c0, d0, c1, d1, c2, d2, c3, d3, c4, d4, c5, d5, c6, d6, c7, d7, c8, d8, c9, d9, c10, d10, c11, d11]) rfl ⟨rfl, hb.drew⟩
    | succ j =>
      rw [show ((j + 1 : Nat) : Int) - 1 = (j : Int) by omega]
      obtain ⟨⟨n1, n2⟩, ⟨n3, n4⟩, n5⟩ := HN.out
      have b1 := (HB.out (j + 1)).out
      have es : A / p2 (j + 1) = A / p2 j / 2 := div_p2_succ A j
      have er := Int.emod_nonneg (A / p2 (j + 1)) (show B ≠ 0 by omega)
      have el := Int.emod_lt_of_pos (A / p2 (j + 1)) n3
      have eq0 : 0 ≤ A / p2 (j + 1) / B := Int.ediv_nonneg b1.1 (by omega)
      have eq1 : A / p2 (j + 1) / B ≤ A := Int.le_trans (Int.ediv_le_self _ b1.1) b1.2
      have LG := long_step (A / p2 (j + 1)) B (A / p2 j % 2) n3 (by omega) (by omega)
      rw [show 2 * (A / p2 (j + 1)) + A / p2 j % 2 = A / p2 j by omega] at LG
      have bx : 0 ≤ A / p2 j % 2 ∧ A / p2 j % 2 ≤ 1 := by omega
      have BT := Lib.hid (fun u => rbit_any A j u (by omega))
      clear es b1
      generalize A / p2 (j + 1) / B = Q at *
      generalize A / p2 (j + 1) % B = R at *
      generalize A / p2 j % 2 = x at *
      have TR := Lib.hid (fun u => rtwice_any R u er (by omega))
      have TQ := Lib.hid (fun u => rtwice_any Q u eq0 (by omega))
      have CM := fun u => rcmp_any (2 * R + x) B u (by omega) (by omega) (by omega) (by omega)
      have PR := dg_bit_plus (R := R) (x := x) er (by omega) bx.1 bx.2
      have PQ := dg_bit_plus (R := Q) (x := 1) eq0 (by omega) (by omega) (by omega)
      have dr0 := dg_bd (2 * R) 0
      have dq0 := dg_bd (2 * Q) 0
      obtain ⟨pr1, pr2⟩ := PR
      obtain ⟨pq1, pq2⟩ := PQ
      have hw1 : IntKind.u64.wrap (dg (2 * R) 0 + x) = dg (2 * R) 0 + x := IntWalk.u64_in _ ⟨by omega, by omega⟩
      replace pr2 := Lib.hid pr2
      replace pq2 := Lib.hid pq2
      by_cases hge : B ≤ 2 * R + x
      · have cge : 0 ≤ rcmp (2 * R + x) B := by unfold rcmp; omega
        have LS := Lib.hid (fun u => rless_any (2 * R + x) B u (by omega) hge (by omega))
        have L1 := Lib.hid (LG.1 hge)
        generalize rcmp (2 * R + x) B = c at *
        replace CM := Lib.hid CM
        replace er := Lib.hid er
        replace eq0 := Lib.hid eq0
        clear LG n1 n2 n3 n4 n5 hge el eq1
        obtain ⟨c0, c1, c2, c3, c4, c5, c6, c7, c8, c9, c10, c11⟩ := hX.r.all
        go_wp2_with fail
        refine (TR.out _).mono ?_
        rintro e w1 ⟨rfl, hb1⟩
        replace hX := hX.go hb1
        clear hb1 c0 c1 c2 c3 c4 c5 c6 c7 c8 c9 c10 c11
        obtain ⟨c0, c1, c2, c3, c4, c5, c6, c7, c8, c9, c10, c11⟩ := hX.r.all
        obtain ⟨y0, y1, y2, y3, y4, y5, y6, y7, y8, y9, y10, y11⟩ := hX.r.allf
        go_wp2_with fail
        change Code.wp _ _ _ _ (rput (w.heap.size + 5) (dg (2 * R)) w1)
        replace hX := hX.putR (dg (2 * R))
        clear c0 c1 c2 c3 c4 c5 c6 c7 c8 c9 c10 c11 y0 y1 y2 y3 y4 y5 y6 y7 y8 y9 y10 y11
        generalize rput (w.heap.size + 5) (dg (2 * R)) w1 = v1 at *
        obtain ⟨c0, c1, c2, c3, c4, c5, c6, c7, c8, c9, c10, c11⟩ := hX.a.all
        have r0 := hX.r.c 0 (by omega)
        refine region_moves (fun u => u.cell? ⟨w.heap.size + 5, 0, none⟩ = some (.int .u64 (dg (2 * R) 0)) ∧ u.cell? ⟨w.heap.size, 0, none⟩ = some (.int .u64 (dg A 0)) ∧ u.cell? ⟨w.heap.size, 1, none⟩ = some (.int .u64 (dg A 1)) ∧ u.cell? ⟨w.heap.size, 2, none⟩ = some (.int .u64 (dg A 2)) ∧ u.cell? ⟨w.heap.size, 3, none⟩ = some (.int .u64 (dg A 3)) ∧ u.cell? ⟨w.heap.size, 4, none⟩ = some (.int .u64 (dg A 4)) ∧ u.cell? ⟨w.heap.size, 5, none⟩ = some (.int .u64 (dg A 5)) ∧ u.cell? ⟨w.heap.size, 6, none⟩ = some (.int .u64 (dg A 6)) ∧ u.cell? ⟨w.heap.size, 7, none⟩ = some (.int .u64 (dg A 7)) ∧ u.cell? ⟨w.heap.size, 8, none⟩ = some (.int .u64 (dg A 8)) ∧ u.cell? ⟨w.heap.size, 9, none⟩ = some (.int .u64 (dg A 9)) ∧ u.cell? ⟨w.heap.size, 10, none⟩ = some (.int .u64 (dg A 10)) ∧ u.cell? ⟨w.heap.size, 11, none⟩ = some (.int .u64 (dg A 11))) [(7, [(6, 7), (5, 7), (4, 7), (0, 7), (1, 7), (2, 7), (3, 7)])] [(.free, 0), (.take, 1), (.take, 2), (.free, 3), (.step, 4), (.free, 5), (.free, 6), (.late, 7)] _ (by kernel_rfl) (by kernel_rfl) (by kernel_rfl) (by kernel_rfl) (by decide) rfl (fun _ _ _ _ _ h => h) ?_
        simp only [List.filterMap_cons, List.filterMap_nil, List.getElem?_toArray, List.getElem?_cons_zero, List.getElem?_cons_succ, Option.map_some]
        iterate 1
          first
            | (refine mv_free ?_ (Or.inl ⟨by rfl, ?_⟩) (⟨r0, c0, c1, c2, c3, c4, c5, c6, c7, c8, c9, c10, c11⟩) ?_
               rotate_left 1
               · intro u
                 go_simp
                 try with_reducible rfl
               simp only [Act.put, List.setIfInBounds_toArray, List.set_cons_zero, List.set_cons_succ])
            | (refine mv_free _ (Or.inr ⟨by rfl, rfl⟩) (⟨r0, c0, c1, c2, c3, c4, c5, c6, c7, c8, c9, c10, c11⟩) ?_
               simp only [Act.put, List.setIfInBounds_toArray, List.set_cons_zero, List.set_cons_succ])
        iterate 2
          first
            | (refine mv_take ?_ (Or.inl ⟨by rfl, ?_⟩) (⟨r0, c0, c1, c2, c3, c4, c5, c6, c7, c8, c9, c10, c11⟩) ?_
               rotate_left 1
               · intro u hu
                 (try dsimp only at hu)
                 go_simp
                 try with_reducible rfl
               simp only [Act.put, List.setIfInBounds_toArray, List.set_cons_zero, List.set_cons_succ])
            | (refine mv_take _ (Or.inr ⟨by rfl, rfl⟩) (⟨r0, c0, c1, c2, c3, c4, c5, c6, c7, c8, c9, c10, c11⟩) ?_
               simp only [Act.put, List.setIfInBounds_toArray, List.set_cons_zero, List.set_cons_succ])
        iterate 1
          first
            | (refine mv_free ?_ (Or.inl ⟨by rfl, ?_⟩) (⟨r0, c0, c1, c2, c3, c4, c5, c6, c7, c8, c9, c10, c11⟩) ?_
               rotate_left 1
               · intro u
                 go_simp
                 try with_reducible rfl
               simp only [Act.put, List.setIfInBounds_toArray, List.set_cons_zero, List.set_cons_succ])
            | (refine mv_free _ (Or.inr ⟨by rfl, rfl⟩) (⟨r0, c0, c1, c2, c3, c4, c5, c6, c7, c8, c9, c10, c11⟩) ?_
               simp only [Act.put, List.setIfInBounds_toArray, List.set_cons_zero, List.set_cons_succ])
        refine mv_step (fun K hK => ?_)
        go_simp
        refine (BT.out _).mono ?_
        rintro e w2 ⟨rfl, hb2⟩
        replace hX := (hX.drew).go hb2
        clear hb2 r0 c0 c1 c2 c3 c4 c5 c6 c7 c8 c9 c10 c11
        obtain ⟨c0, c1, c2, c3, c4, c5, c6, c7, c8, c9, c10, c11⟩ := hX.a.all
        have r0 := hX.r.c 0 (by omega)
        have f0 := hX.r.f 0 (by omega)
        go_wp2_with fail
        refine hK.out _ _ _ (fun u hu => hu) (⟨r0, c0, c1, c2, c3, c4, c5, c6, c7, c8, c9, c10, c11⟩) ?_
        clear hK K
        iterate 2
          first
            | (refine mv_free ?_ (Or.inl ⟨by rfl, ?_⟩) (⟨r0, c0, c1, c2, c3, c4, c5, c6, c7, c8, c9, c10, c11⟩) ?_
               rotate_left 1
               · intro u
                 go_simp
                 try with_reducible rfl
               simp only [Act.put, List.setIfInBounds_toArray, List.set_cons_zero, List.set_cons_succ])
            | (refine mv_free _ (Or.inr ⟨by rfl, rfl⟩) (⟨r0, c0, c1, c2, c3, c4, c5, c6, c7, c8, c9, c10, c11⟩) ?_
               simp only [Act.put, List.setIfInBounds_toArray, List.set_cons_zero, List.set_cons_succ])
        refine mv_late (fun K hK => ?_)
        go_simp
        refine hK.out (fun _ => True) _ _ ?_
        clear hK K
        refine mv_done ?_
        replace hX := (hX.setR 0 (dg (2 * R) 0 + x) (by omega)).congr (fun _ _ => rfl) pr2.out
        clear r0 f0 c0 c1 c2 c3 c4 c5 c6 c7 c8 c9 c10 c11
        change Exit.then _ _ _ _ (w2.setCell ⟨w.heap.size + 5, 0, none⟩ (.int .u64 (dg (2 * R) 0 + x)))
        generalize w2.setCell ⟨w.heap.size + 5, 0, none⟩ (.int .u64 (dg (2 * R) 0 + x)) = v2 at *
        obtain ⟨c0, c1, c2, c3, c4, c5, c6, c7, c8, c9, c10, c11⟩ := hX.q.all
        go_wp2_with fail
        refine (TQ.out _).mono ?_
        rintro e w3 ⟨rfl, hb3⟩
        replace hX := hX.go hb3
        clear hb3 c0 c1 c2 c3 c4 c5 c6 c7 c8 c9 c10 c11
        obtain ⟨c0, c1, c2, c3, c4, c5, c6, c7, c8, c9, c10, c11⟩ := hX.q.all
        obtain ⟨y0, y1, y2, y3, y4, y5, y6, y7, y8, y9, y10, y11⟩ := hX.q.allf
        go_upto_region 8 with (fail)
        change Code.wp _ _ _ _ (rput (w.heap.size + 4) (dg (2 * Q)) w3)
        replace hX := hX.putQ (dg (2 * Q))
        clear c0 c1 c2 c3 c4 c5 c6 c7 c8 c9 c10 c11 y0 y1 y2 y3 y4 y5 y6 y7 y8 y9 y10 y11
        generalize rput (w.heap.size + 4) (dg (2 * Q)) w3 = v3 at *
        obtain ⟨c0, c1, c2, c3, c4, c5, c6, c7, c8, c9, c10, c11⟩ := hX.r.all
        obtain ⟨d0, d1, d2, d3, d4, d5, d6, d7, d8, d9, d10, d11⟩ := hX.b.all
        go_wp2_with fail
        refine (CM.out _).mono ?_
        rintro e w4 ⟨rfl, hb4⟩
        replace hX := hX.go hb4
        clear hb4 c0 c1 c2 c3 c4 c5 c6 c7 c8 c9 c10 c11 d0 d1 d2 d3 d4 d5 d6 d7 d8 d9 d10 d11
        skip
        obtain ⟨c0, c1, c2, c3, c4, c5, c6, c7, c8, c9, c10, c11⟩ := hX.r.all
        obtain ⟨d0, d1, d2, d3, d4, d5, d6, d7, d8, d9, d10, d11⟩ := hX.b.all
        go_wp2_with fail
        refine (LS.out _).mono ?_
        rintro e w5 ⟨rfl, hb5⟩
        replace hX := hX.go hb5
        clear hb5 c0 c1 c2 c3 c4 c5 c6 c7 c8 c9 c10 c11 d0 d1 d2 d3 d4 d5 d6 d7 d8 d9 d10 d11
        obtain ⟨c0, c1, c2, c3, c4, c5, c6, c7, c8, c9, c10, c11⟩ := hX.r.all
        obtain ⟨y0, y1, y2, y3, y4, y5, y6, y7, y8, y9, y10, y11⟩ := hX.r.allf
        go_upto_region 10 with (fail)
        change Code.wp _ _ _ _ (rput (w.heap.size + 5) (dg (2 * R + x - B)) w5)
        replace hX := hX.putR (dg (2 * R + x - B))
        clear c0 c1 c2 c3 c4 c5 c6 c7 c8 c9 c10 c11 y0 y1 y2 y3 y4 y5 y6 y7 y8 y9 y10 y11
        generalize rput (w.heap.size + 5) (dg (2 * R + x - B)) w5 = v5 at *
        have q0 := hX.q.c 0 (by omega)
        have f0 := hX.q.f 0 (by omega)
        go_wp2
        replace hX := (hX.setQ 0 (dg (2 * Q) 0 + 1) (by omega)).congr pq2.out (fun _ _ => rfl)
        exact ⟨⟨j, by omega, rfl, by rw [L1.out.1, L1.out.2]; exact hX⟩, by simp [intOf]⟩
      · have cge : rcmp (2 * R + x) B < 0 := by unfold rcmp; omega
        have L1 := Lib.hid (LG.2 (by omega))
        generalize rcmp (2 * R + x) B = c at *
        replace CM := Lib.hid CM
        replace er := Lib.hid er
        replace eq0 := Lib.hid eq0
        clear LG n1 n2 n3 n4 n5 hge el eq1
        obtain ⟨c0, c1, c2, c3, c4, c5, c6, c7, c8, c9, c10, c11⟩ := hX.r.all
        go_wp2_with fail
        refine (TR.out _).mono ?_
        rintro e w1 ⟨rfl, hb1⟩
        replace hX := hX.go hb1
        clear hb1 c0 c1 c2 c3 c4 c5 c6 c7 c8 c9 c10 c11
        obtain ⟨c0, c1, c2, c3, c4, c5, c6, c7, c8, c9, c10, c11⟩ := hX.r.all
        obtain ⟨y0, y1, y2, y3, y4, y5, y6, y7, y8, y9, y10, y11⟩ := hX.r.allf
        go_wp2_with fail
        change Code.wp _ _ _ _ (rput (w.heap.size + 5) (dg (2 * R)) w1)
        replace hX := hX.putR (dg (2 * R))
        clear c0 c1 c2 c3 c4 c5 c6 c7 c8 c9 c10 c11 y0 y1 y2 y3 y4 y5 y6 y7 y8 y9 y10 y11
        generalize rput (w.heap.size + 5) (dg (2 * R)) w1 = v1 at *
        obtain ⟨c0, c1, c2, c3, c4, c5, c6, c7, c8, c9, c10, c11⟩ := hX.a.all
        have r0 := hX.r.c 0 (by omega)
        refine region_moves (fun u => u.cell? ⟨w.heap.size + 5, 0, none⟩ = some (.int .u64 (dg (2 * R) 0)) ∧ u.cell? ⟨w.heap.size, 0, none⟩ = some (.int .u64 (dg A 0)) ∧ u.cell? ⟨w.heap.size, 1, none⟩ = some (.int .u64 (dg A 1)) ∧ u.cell? ⟨w.heap.size, 2, none⟩ = some (.int .u64 (dg A 2)) ∧ u.cell? ⟨w.heap.size, 3, none⟩ = some (.int .u64 (dg A 3)) ∧ u.cell? ⟨w.heap.size, 4, none⟩ = some (.int .u64 (dg A 4)) ∧ u.cell? ⟨w.heap.size, 5, none⟩ = some (.int .u64 (dg A 5)) ∧ u.cell? ⟨w.heap.size, 6, none⟩ = some (.int .u64 (dg A 6)) ∧ u.cell? ⟨w.heap.size, 7, none⟩ = some (.int .u64 (dg A 7)) ∧ u.cell? ⟨w.heap.size, 8, none⟩ = some (.int .u64 (dg A 8)) ∧ u.cell? ⟨w.heap.size, 9, none⟩ = some (.int .u64 (dg A 9)) ∧ u.cell? ⟨w.heap.size, 10, none⟩ = some (.int .u64 (dg A 10)) ∧ u.cell? ⟨w.heap.size, 11, none⟩ = some (.int .u64 (dg A 11))) [(7, [(6, 7), (5, 7), (4, 7), (0, 7), (1, 7), (2, 7), (3, 7)])] [(.free, 0), (.take, 1), (.take, 2), (.free, 3), (.step, 4), (.free, 5), (.free, 6), (.late, 7)] _ (by kernel_rfl) (by kernel_rfl) (by kernel_rfl) (by kernel_rfl) (by decide) rfl (fun _ _ _ _ _ h => h) ?_
        simp only [List.filterMap_cons, List.filterMap_nil, List.getElem?_toArray, List.getElem?_cons_zero, List.getElem?_cons_succ, Option.map_some]
        iterate 1
          first
            | (refine mv_free ?_ (Or.inl ⟨by rfl, ?_⟩) (⟨r0, c0, c1, c2, c3, c4, c5, c6, c7, c8, c9, c10, c11⟩) ?_
               rotate_left 1
               · intro u
                 go_simp
                 try with_reducible rfl
               simp only [Act.put, List.setIfInBounds_toArray, List.set_cons_zero, List.set_cons_succ])
            | (refine mv_free _ (Or.inr ⟨by rfl, rfl⟩) (⟨r0, c0, c1, c2, c3, c4, c5, c6, c7, c8, c9, c10, c11⟩) ?_
               simp only [Act.put, List.setIfInBounds_toArray, List.set_cons_zero, List.set_cons_succ])
        iterate 2
          first
            | (refine mv_take ?_ (Or.inl ⟨by rfl, ?_⟩) (⟨r0, c0, c1, c2, c3, c4, c5, c6, c7, c8, c9, c10, c11⟩) ?_
               rotate_left 1
               · intro u hu
                 (try dsimp only at hu)
                 go_simp
                 try with_reducible rfl
               simp only [Act.put, List.setIfInBounds_toArray, List.set_cons_zero, List.set_cons_succ])
            | (refine mv_take _ (Or.inr ⟨by rfl, rfl⟩) (⟨r0, c0, c1, c2, c3, c4, c5, c6, c7, c8, c9, c10, c11⟩) ?_
               simp only [Act.put, List.setIfInBounds_toArray, List.set_cons_zero, List.set_cons_succ])
        iterate 1
          first
            | (refine mv_free ?_ (Or.inl ⟨by rfl, ?_⟩) (⟨r0, c0, c1, c2, c3, c4, c5, c6, c7, c8, c9, c10, c11⟩) ?_
               rotate_left 1
               · intro u
                 go_simp
                 try with_reducible rfl
               simp only [Act.put, List.setIfInBounds_toArray, List.set_cons_zero, List.set_cons_succ])
            | (refine mv_free _ (Or.inr ⟨by rfl, rfl⟩) (⟨r0, c0, c1, c2, c3, c4, c5, c6, c7, c8, c9, c10, c11⟩) ?_
               simp only [Act.put, List.setIfInBounds_toArray, List.set_cons_zero, List.set_cons_succ])
        refine mv_step (fun K hK => ?_)
        go_simp
        refine (BT.out _).mono ?_
        rintro e w2 ⟨rfl, hb2⟩
        replace hX := (hX.drew).go hb2
        clear hb2 r0 c0 c1 c2 c3 c4 c5 c6 c7 c8 c9 c10 c11
        obtain ⟨c0, c1, c2, c3, c4, c5, c6, c7, c8, c9, c10, c11⟩ := hX.a.all
        have r0 := hX.r.c 0 (by omega)
        have f0 := hX.r.f 0 (by omega)
        go_wp2_with fail
        refine hK.out _ _ _ (fun u hu => hu) (⟨r0, c0, c1, c2, c3, c4, c5, c6, c7, c8, c9, c10, c11⟩) ?_
        clear hK K
        iterate 2
          first
            | (refine mv_free ?_ (Or.inl ⟨by rfl, ?_⟩) (⟨r0, c0, c1, c2, c3, c4, c5, c6, c7, c8, c9, c10, c11⟩) ?_
               rotate_left 1
               · intro u
                 go_simp
                 try with_reducible rfl
               simp only [Act.put, List.setIfInBounds_toArray, List.set_cons_zero, List.set_cons_succ])
            | (refine mv_free _ (Or.inr ⟨by rfl, rfl⟩) (⟨r0, c0, c1, c2, c3, c4, c5, c6, c7, c8, c9, c10, c11⟩) ?_
               simp only [Act.put, List.setIfInBounds_toArray, List.set_cons_zero, List.set_cons_succ])
        refine mv_late (fun K hK => ?_)
        go_simp
        refine hK.out (fun _ => True) _ _ ?_
        clear hK K
        refine mv_done ?_
        replace hX := (hX.setR 0 (dg (2 * R) 0 + x) (by omega)).congr (fun _ _ => rfl) pr2.out
        clear r0 f0 c0 c1 c2 c3 c4 c5 c6 c7 c8 c9 c10 c11
        change Exit.then _ _ _ _ (w2.setCell ⟨w.heap.size + 5, 0, none⟩ (.int .u64 (dg (2 * R) 0 + x)))
        generalize w2.setCell ⟨w.heap.size + 5, 0, none⟩ (.int .u64 (dg (2 * R) 0 + x)) = v2 at *
        obtain ⟨c0, c1, c2, c3, c4, c5, c6, c7, c8, c9, c10, c11⟩ := hX.q.all
        go_wp2_with fail
        refine (TQ.out _).mono ?_
        rintro e w3 ⟨rfl, hb3⟩
        replace hX := hX.go hb3
        clear hb3 c0 c1 c2 c3 c4 c5 c6 c7 c8 c9 c10 c11
        obtain ⟨c0, c1, c2, c3, c4, c5, c6, c7, c8, c9, c10, c11⟩ := hX.q.all
        obtain ⟨y0, y1, y2, y3, y4, y5, y6, y7, y8, y9, y10, y11⟩ := hX.q.allf
        go_upto_region 8 with (fail)
        change Code.wp _ _ _ _ (rput (w.heap.size + 4) (dg (2 * Q)) w3)
        replace hX := hX.putQ (dg (2 * Q))
        clear c0 c1 c2 c3 c4 c5 c6 c7 c8 c9 c10 c11 y0 y1 y2 y3 y4 y5 y6 y7 y8 y9 y10 y11
        generalize rput (w.heap.size + 4) (dg (2 * Q)) w3 = v3 at *
        obtain ⟨c0, c1, c2, c3, c4, c5, c6, c7, c8, c9, c10, c11⟩ := hX.r.all
        obtain ⟨d0, d1, d2, d3, d4, d5, d6, d7, d8, d9, d10, d11⟩ := hX.b.all
        go_wp2_with fail
        refine (CM.out _).mono ?_
        rintro e w4 ⟨rfl, hb4⟩
        replace hX := hX.go hb4
        clear hb4 c0 c1 c2 c3 c4 c5 c6 c7 c8 c9 c10 c11 d0 d1 d2 d3 d4 d5 d6 d7 d8 d9 d10 d11
        skip
        go_wp2
        exact ⟨⟨j, by omega, rfl, by rw [L1.out.1, L1.out.2]; exact hX⟩, by simp [intOf]⟩

end Go.Proofs.YtfejdbmamaggpaaDoor
