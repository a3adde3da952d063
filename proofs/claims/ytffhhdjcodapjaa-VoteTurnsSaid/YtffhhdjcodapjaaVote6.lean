/- The law VoteTurns, walked. -/
import Derived.Test.YtffhhdjcodapjaaVote5
import Derived.Test.YtffhhdjcodapjaaHb
import Derived.Deep.Cut
namespace Go.Proofs.Ytffhhdjcodapjaa
open Go.ChangeShapes Go.WideShapes Go.ChangeAt Go.RowKit
set_option linter.unusedVariables false
set_option linter.unusedSimpArgs false

theorem below_besideB {B b : Nat} {V a c : World} (h : Below B V a) (o : Beside b a c) (hb : B ≤ b) (hs : B ≤ a.heap.size) : Below B V c :=
  ⟨o.os.trans h.os, o.tape.trans h.tape, o.output.trans h.output, Nat.le_trans h.size o.size, fun k hk => (o.block k (by omega) (by omega)).trans (h.block k hk)⟩
/-- The copy, its first k readings shifted. -/
def vtS (x0 e0 x1 e1 x2 e2 d : Int) : Nat → List Value
  | 0 => [.int .i64 x0, .int .i64 e0, .int .i64 x1, .int .i64 e1, .int .i64 x2, .int .i64 e2]
  | 1 => [.int .i64 (x0 + d), .int .i64 e0, .int .i64 x1, .int .i64 e1, .int .i64 x2, .int .i64 e2]
  | 2 => [.int .i64 (x0 + d), .int .i64 e0, .int .i64 (x1 + d), .int .i64 e1, .int .i64 x2, .int .i64 e2]
  | _ => [.int .i64 (x0 + d), .int .i64 e0, .int .i64 (x1 + d), .int .i64 e1, .int .i64 (x2 + d), .int .i64 e2]
theorem vt_bd (x0 e0 x1 e1 x2 e2 tau : Int) (a1 : -1000000000 ≤ x0) (a2 : x0 ≤ 1000000000) (b1 : -1000000000 ≤ x1) (b2 : x1 ≤ 1000000000) (c1 : -1000000000 ≤ x2) (c2 : x2 ≤ 1000000000) : -2000000000 ≤ (vtP x0 e0 x1 e1 x2 e2 tau).1 ∧ (vtP x0 e0 x1 e1 x2 e2 tau).1 ≤ 2000000000 := by
  have k0 : clq x0 = x0 := by unfold clq; omega
  have k1 : clq x1 = x1 := by unfold clq; omega
  unfold vtP vtOne men vtMid
  rw [k0, k1]
  generalize (e0 == 0) = z0
  generalize (e1 == 0) = z1
  generalize (e2 == 0) = z2
  generalize decide (tau < apt x0 x2) = c0
  generalize decide (tau < apt x1 x2) = c1
  cases z0 <;> cases z1 <;> cases z2 <;> cases c0 <;> cases c1 <;> simp <;> omega
def InB (x : Int) : Prop := -1000000000 ≤ x ∧ x ≤ 1000000000

set_option maxRecDepth 100000 in
set_option maxHeartbeats 8000000 in
theorem law_VoteTurns (x0 e0 x1 e1 x2 e2 tau d : Int) (w : World) : Calls Try.prog 5 #[.agg #[.int .i64 x0, .int .i64 e0, .int .i64 x1, .int .i64 e1, .int .i64 x2, .int .i64 e2], .int .i64 tau, .int .i64 d] w fun r w' => r = .returned (.bool true) ∧ Below w.heap.size w w' := by
  have VP := Lib.hid (fun u => vpick_any x0 e0 x1 e1 x2 e2 tau u)
  have VQ := fun u => vpick_any x1 e1 x0 e0 x2 e2 tau u
  rw [(vt_turn x0 e0 x1 e1 x2 e2 tau).1, (vt_turn x0 e0 x1 e1 x2 e2 tau).2] at VQ
  have VS := Lib.hid (fun u => vpick_any (x0 + d) e0 (x1 + d) e1 (x2 + d) e2 tau u)
  have SH := fun g1 g2 (h0 : InB x0) (h1 : InB x1) (h2 : InB x2) => And.intro (vt_bd x0 e0 x1 e1 x2 e2 tau h0.1 h0.2 h1.1 h1.2 h2.1 h2.2) (vt_shift x0 e0 x1 e1 x2 e2 tau d g1 g2 h0.1 h0.2 h1.1 h1.2 h2.1 h2.2)
  replace SH := Lib.hid SH
  generalize (vtP x0 e0 x1 e1 x2 e2 tau).1 = qv at *
  generalize (vtP x0 e0 x1 e1 x2 e2 tau).2 = qs at *
  generalize (vtP (x0 + d) e0 (x1 + d) e1 (x2 + d) e2 tau).1 = pv at *
  generalize (vtP (x0 + d) e0 (x1 + d) e1 (x2 + d) e2 tau).2 = ps at *
  have hqs : (qs = 1 ∧ (if qs = 1 then 2 else if qs = 2 then 1 else qs : Int) = 2) ∨ (qs = 2 ∧ (if qs = 1 then 2 else if qs = 2 then 1 else qs : Int) = 1) ∨ (¬ qs = 1 ∧ ¬ qs = 2 ∧ (if qs = 1 then 2 else if qs = 2 then 1 else qs : Int) = qs) := by omega
  generalize (if qs = 1 then 2 else if qs = 2 then 1 else qs : Int) = ts at *
  replace VQ := Lib.hid VQ
  obtain ⟨V, eV, hb0, hz, hcs⟩ : ∃ V, V = w.alloc (.cells #[.int .i64 x0, .int .i64 e0, .int .i64 x1, .int .i64 e1, .int .i64 x2, .int .i64 e2] 40) ∧ Below w.heap.size w V ∧ V.heap.size = w.heap.size + 1 ∧ ∀ u, Below (w.heap.size + 1) V u → u.cell? ⟨w.heap.size, 0, none⟩ = some (.int .i64 x0) ∧ u.cell? ⟨w.heap.size, 1, none⟩ = some (.int .i64 e0) ∧ u.cell? ⟨w.heap.size, 2, none⟩ = some (.int .i64 x1) ∧ u.cell? ⟨w.heap.size, 3, none⟩ = some (.int .i64 e1) ∧ u.cell? ⟨w.heap.size, 4, none⟩ = some (.int .i64 x2) ∧ u.cell? ⟨w.heap.size, 5, none⟩ = some (.int .i64 e2) :=
    ⟨_, rfl, (by repeat (first | exact Below.refl _ _ | assumption | apply Below.drew | apply below_drewN | (refine Below.alloc ?_ (by first | exact Nat.le_refl _ | omega | (simp <;> omega)) _) | (refine Below.setCell ?_ (by first | exact Nat.le_refl _ | omega | (simp <;> omega)) _))), by simp, fun u hu => ⟨(bc hu (by omega)).trans (by go_simp), (bc hu (by omega)).trans (by go_simp), (bc hu (by omega)).trans (by go_simp), (bc hu (by omega)).trans (by go_simp), (bc hu (by omega)).trans (by go_simp), (bc hu (by omega)).trans (by go_simp)⟩⟩
  replace hb0 := Lib.hid hb0
  replace hz := Lib.hid hz
  replace hcs := Lib.hid hcs
  replace eV := Lib.hid eV
  have hd : (-1000000 ≤ d ∧ d ≤ 1000000) ∨ d < -1000000 ∨ (-1000000 ≤ d ∧ 1000000 < d) := by omega
  go_enter Try.func5, Try.ntmps5
  go_wp2_with fail
  rw [← eV.out]
  refine (VP.out _).mono ?_
  rintro e w1 ⟨rfl, hb1⟩
  have hb1 := (Below.refl (w.heap.size + 1) V).trans (hb1.mono (Nat.le_of_eq hz.out.symm))
  obtain ⟨k0, k1, k2, k3, k4, k5⟩ := hcs.out _ hb1
  go_wp2_with fail
  refine (VQ.out _).mono ?_
  rintro e w2 ⟨rfl, hb2⟩
  have hb2 := hb1.trans (hb2.mono (by have := hb1.size; have := hz.out; omega))
  clear hb1
  obtain ⟨k0, k1, k2, k3, k4, k5⟩ := hcs.out _ hb2
  have g2 := hb0.out.trans (hb2.mono (by omega))
  replace hqs := Lib.hid hqs
  replace hd := Lib.hid hd
  go_upto_region 3 with (fail)
  go_cut [64] from 15 (fun s u => s = .bool false ∧ u = w2)
  case first =>
    have hq := hqs.out
    clear hqs hd SH VP VQ VS
    rcases hq with ⟨rfl, rfl⟩ | ⟨rfl, rfl⟩ | ⟨n1, n2, rfl⟩
    all_goals
      go_wp2_with fail
      go_meet
      case rel => exact ⟨rfl, rfl⟩
  case rest =>
    obtain ⟨rfl, rfl⟩ := hcut
    clear hqs
    replace hd := hd.out
    rcases hd with ⟨d1, d2⟩ | d1 | ⟨d1, d2⟩
    · cases hp : (d.tmod 2 != 0)
      · go_wp2_with fail
        have hnew : Held wc.heap.size (vtS x0 e0 x1 e1 x2 e2 d 0) (wc.alloc (.cells #[.int .i64 x0, .int .i64 e0, .int .i64 x1, .int .i64 e1, .int .i64 x2, .int .i64 e2] 40)) := Held.new wc (vtS x0 e0 x1 e1 x2 e2 d 0) _
        have hb3 : Below (w.heap.size + 1) V (wc.alloc (.cells #[.int .i64 x0, .int .i64 e0, .int .i64 x1, .int .i64 e1, .int .i64 x2, .int .i64 e2] 40)) := hb2.alloc (by have := hb2.size; have := hz.out; omega) _
        clear k0 k1 k2 k3 k4 k5
        go_loopw [12] (fun i v => ∃ k : Nat, k ≤ 3 ∧ i = .int .i64 k ∧ Held wc.heap.size (vtS x0 e0 x1 e1 x2 e2 d k) v ∧ Below (w.heap.size + 1) V v ∧ (1 ≤ k → InB x0) ∧ (2 ≤ k → InB x1) ∧ (3 ≤ k → InB x2)) (fun i _ => 3 - (intOf i).toNat)
        case atStart => exact ⟨0, by omega, rfl, hnew, hb3, fun h => absurd h (by omega), fun h => absurd h (by omega), fun h => absurd h (by omega)⟩
        case round =>
          clear hnew hb3
          obtain ⟨k, hk, rfl, hh, hbel, r0, r1, r2⟩ := hrel
          obtain ⟨k0, k1, k2, k3, k4, k5⟩ := hcs.out _ hbel
          have g5 := hb0.out.trans (hbel.mono (by omega))
          by_cases hk3 : k < 3
          · obtain rfl | rfl | rfl : k = 0 ∨ k = 1 ∨ k = 2 := by omega
            · by_cases hi : InB x0
              · have hi' := hi
                obtain ⟨i1, i2⟩ := hi'
                replace r0 := Lib.hid r0
                replace r1 := Lib.hid r1
                replace r2 := Lib.hid r2
                have hwr : IntKind.i64.wrap (x0 + d) = x0 + d := IntWalk.i64_in _ ⟨by omega, by omega⟩
                have hq := hh
                simp only [vtS] at hq
                obtain ⟨c0, f0⟩ := hq.one 0 rfl
                obtain ⟨c1, f1⟩ := hq.one 1 rfl
                obtain ⟨c2, f2⟩ := hq.one 2 rfl
                obtain ⟨c3, f3⟩ := hq.one 3 rfl
                obtain ⟨c4, f4⟩ := hq.one 4 rfl
                obtain ⟨c5, f5⟩ := hq.one 5 rfl
                go_wp2_with fail
                refine region_moves (fun u => u.cell? ⟨w.heap.size, 0, none⟩ = some (.int .i64 x0) ∧ u.cell? ⟨w.heap.size, 1, none⟩ = some (.int .i64 e0) ∧ u.cell? ⟨w.heap.size, 2, none⟩ = some (.int .i64 x1) ∧ u.cell? ⟨w.heap.size, 3, none⟩ = some (.int .i64 e1) ∧ u.cell? ⟨w.heap.size, 4, none⟩ = some (.int .i64 x2) ∧ u.cell? ⟨w.heap.size, 5, none⟩ = some (.int .i64 e2)) [(13, [(12, 13), (11, 13), (0, 13), (1, 13), (2, 13), (3, 13), (4, 13), (5, 13), (6, 13), (7, 13), (8, 13), (9, 13), (10, 13)])] [(.free, 0), (.free, 1), (.free, 2), (.free, 3), (.take, 4), (.free, 5), (.free, 6), (.free, 7), (.free, 8), (.free, 9), (.take, 10), (.free, 11), (.free, 12), (.late, 13)] _ (by kernel_rfl) (by kernel_rfl) (by kernel_rfl) (by kernel_rfl) (by decide) rfl (fun _ _ _ _ _ h => h) ?_
                simp only [List.filterMap_cons, List.filterMap_nil, List.getElem?_toArray, List.getElem?_cons_zero, List.getElem?_cons_succ, Option.map_some]
                iterate 4
                  first
                    | (refine mv_free ?_ (Or.inl ⟨by rfl, ?_⟩) (⟨k0, k1, k2, k3, k4, k5⟩) ?_
                       rotate_left 1
                       · intro u
                         go_simp
                         try with_reducible rfl
                       simp only [Act.put, List.setIfInBounds_toArray, List.set_cons_zero, List.set_cons_succ])
                    | (refine mv_free _ (Or.inr ⟨by rfl, rfl⟩) (⟨k0, k1, k2, k3, k4, k5⟩) ?_
                       simp only [Act.put, List.setIfInBounds_toArray, List.set_cons_zero, List.set_cons_succ])
                iterate 1
                  first
                    | (refine mv_take ?_ (Or.inl ⟨by rfl, ?_⟩) (⟨k0, k1, k2, k3, k4, k5⟩) ?_
                       rotate_left 1
                       · intro u hu
                         (try dsimp only at hu)
                         go_simp
                         try with_reducible rfl
                       simp only [Act.put, List.setIfInBounds_toArray, List.set_cons_zero, List.set_cons_succ])
                    | (refine mv_take _ (Or.inr ⟨by rfl, rfl⟩) (⟨k0, k1, k2, k3, k4, k5⟩) ?_
                       simp only [Act.put, List.setIfInBounds_toArray, List.set_cons_zero, List.set_cons_succ])
                iterate 5
                  first
                    | (refine mv_free ?_ (Or.inl ⟨by rfl, ?_⟩) (⟨k0, k1, k2, k3, k4, k5⟩) ?_
                       rotate_left 1
                       · intro u
                         go_simp
                         try with_reducible rfl
                       simp only [Act.put, List.setIfInBounds_toArray, List.set_cons_zero, List.set_cons_succ])
                    | (refine mv_free _ (Or.inr ⟨by rfl, rfl⟩) (⟨k0, k1, k2, k3, k4, k5⟩) ?_
                       simp only [Act.put, List.setIfInBounds_toArray, List.set_cons_zero, List.set_cons_succ])
                iterate 1
                  first
                    | (refine mv_take ?_ (Or.inl ⟨by rfl, ?_⟩) (⟨k0, k1, k2, k3, k4, k5⟩) ?_
                       rotate_left 1
                       · intro u hu
                         (try dsimp only at hu)
                         go_simp
                         try with_reducible rfl
                       simp only [Act.put, List.setIfInBounds_toArray, List.set_cons_zero, List.set_cons_succ])
                    | (refine mv_take _ (Or.inr ⟨by rfl, rfl⟩) (⟨k0, k1, k2, k3, k4, k5⟩) ?_
                       simp only [Act.put, List.setIfInBounds_toArray, List.set_cons_zero, List.set_cons_succ])
                iterate 2
                  first
                    | (refine mv_free ?_ (Or.inl ⟨by rfl, ?_⟩) (⟨k0, k1, k2, k3, k4, k5⟩) ?_
                       rotate_left 1
                       · intro u
                         go_simp
                         try with_reducible rfl
                       simp only [Act.put, List.setIfInBounds_toArray, List.set_cons_zero, List.set_cons_succ])
                    | (refine mv_free _ (Or.inr ⟨by rfl, rfl⟩) (⟨k0, k1, k2, k3, k4, k5⟩) ?_
                       simp only [Act.put, List.setIfInBounds_toArray, List.set_cons_zero, List.set_cons_succ])
                refine mv_late (fun K hK => ?_)
                go_simp
                refine hK.out (fun _ => True) _ _ ?_
                clear hK K
                refine mv_done ?_
                go_wp2
                go_roundw
                case rel =>
                  obtain ⟨hh2, ob⟩ := ((((HB.start hh).set 0 (.int .i64 (x0 + d)) (by simp [vtS])).set 1 (.int .i64 e0) (by simp [vtS])).is (show _ = vtS x0 e0 x1 e1 x2 e2 d 1 by simp [vtS])).fin rfl rfl rfl rfl
                  exact ⟨1, by omega, rfl, hh2.drew, (below_besideB hbel ob (by have := hb2.size; have := hz.out; omega) (by have := hbel.size; have := hz.out; omega)).drew, fun _ => hi, fun h => absurd h (by omega), fun h => absurd h (by omega)⟩
                case measure => simp [intOf]
              · have hc : x0 < -1000000000 ∨ (-1000000000 ≤ x0 ∧ 1000000000 < x0) := by unfold InB at hi; omega
                rcases hc with hc | ⟨hc, hc2⟩
                all_goals
                  go_wp2_with (go_at_call 21; refine (lives24 _).mono ?_; rintro e w1 ⟨rfl, b4⟩)
                  go_ret
                  exact ⟨rfl, g5.trans (b4.mono g5.size)⟩
            · by_cases hi : InB x1
              · have hi' := hi
                obtain ⟨i1, i2⟩ := hi'
                replace r0 := Lib.hid r0
                replace r1 := Lib.hid r1
                replace r2 := Lib.hid r2
                have hwr : IntKind.i64.wrap (x1 + d) = x1 + d := IntWalk.i64_in _ ⟨by omega, by omega⟩
                have hq := hh
                simp only [vtS] at hq
                obtain ⟨c0, f0⟩ := hq.one 0 rfl
                obtain ⟨c1, f1⟩ := hq.one 1 rfl
                obtain ⟨c2, f2⟩ := hq.one 2 rfl
                obtain ⟨c3, f3⟩ := hq.one 3 rfl
                obtain ⟨c4, f4⟩ := hq.one 4 rfl
                obtain ⟨c5, f5⟩ := hq.one 5 rfl
                go_wp2_with fail
                refine region_moves (fun u => u.cell? ⟨w.heap.size, 0, none⟩ = some (.int .i64 x0) ∧ u.cell? ⟨w.heap.size, 1, none⟩ = some (.int .i64 e0) ∧ u.cell? ⟨w.heap.size, 2, none⟩ = some (.int .i64 x1) ∧ u.cell? ⟨w.heap.size, 3, none⟩ = some (.int .i64 e1) ∧ u.cell? ⟨w.heap.size, 4, none⟩ = some (.int .i64 x2) ∧ u.cell? ⟨w.heap.size, 5, none⟩ = some (.int .i64 e2)) [(13, [(12, 13), (11, 13), (0, 13), (1, 13), (2, 13), (3, 13), (4, 13), (5, 13), (6, 13), (7, 13), (8, 13), (9, 13), (10, 13)])] [(.free, 0), (.free, 1), (.free, 2), (.free, 3), (.take, 4), (.free, 5), (.free, 6), (.free, 7), (.free, 8), (.free, 9), (.take, 10), (.free, 11), (.free, 12), (.late, 13)] _ (by kernel_rfl) (by kernel_rfl) (by kernel_rfl) (by kernel_rfl) (by decide) rfl (fun _ _ _ _ _ h => h) ?_
                simp only [List.filterMap_cons, List.filterMap_nil, List.getElem?_toArray, List.getElem?_cons_zero, List.getElem?_cons_succ, Option.map_some]
                iterate 4
                  first
                    | (refine mv_free ?_ (Or.inl ⟨by rfl, ?_⟩) (⟨k0, k1, k2, k3, k4, k5⟩) ?_
                       rotate_left 1
                       · intro u
                         go_simp
                         try with_reducible rfl
                       simp only [Act.put, List.setIfInBounds_toArray, List.set_cons_zero, List.set_cons_succ])
                    | (refine mv_free _ (Or.inr ⟨by rfl, rfl⟩) (⟨k0, k1, k2, k3, k4, k5⟩) ?_
                       simp only [Act.put, List.setIfInBounds_toArray, List.set_cons_zero, List.set_cons_succ])
                iterate 1
                  first
                    | (refine mv_take ?_ (Or.inl ⟨by rfl, ?_⟩) (⟨k0, k1, k2, k3, k4, k5⟩) ?_
                       rotate_left 1
                       · intro u hu
                         (try dsimp only at hu)
                         go_simp
                         try with_reducible rfl
                       simp only [Act.put, List.setIfInBounds_toArray, List.set_cons_zero, List.set_cons_succ])
                    | (refine mv_take _ (Or.inr ⟨by rfl, rfl⟩) (⟨k0, k1, k2, k3, k4, k5⟩) ?_
                       simp only [Act.put, List.setIfInBounds_toArray, List.set_cons_zero, List.set_cons_succ])
                iterate 5
                  first
                    | (refine mv_free ?_ (Or.inl ⟨by rfl, ?_⟩) (⟨k0, k1, k2, k3, k4, k5⟩) ?_
                       rotate_left 1
                       · intro u
                         go_simp
                         try with_reducible rfl
                       simp only [Act.put, List.setIfInBounds_toArray, List.set_cons_zero, List.set_cons_succ])
                    | (refine mv_free _ (Or.inr ⟨by rfl, rfl⟩) (⟨k0, k1, k2, k3, k4, k5⟩) ?_
                       simp only [Act.put, List.setIfInBounds_toArray, List.set_cons_zero, List.set_cons_succ])
                iterate 1
                  first
                    | (refine mv_take ?_ (Or.inl ⟨by rfl, ?_⟩) (⟨k0, k1, k2, k3, k4, k5⟩) ?_
                       rotate_left 1
                       · intro u hu
                         (try dsimp only at hu)
                         go_simp
                         try with_reducible rfl
                       simp only [Act.put, List.setIfInBounds_toArray, List.set_cons_zero, List.set_cons_succ])
                    | (refine mv_take _ (Or.inr ⟨by rfl, rfl⟩) (⟨k0, k1, k2, k3, k4, k5⟩) ?_
                       simp only [Act.put, List.setIfInBounds_toArray, List.set_cons_zero, List.set_cons_succ])
                iterate 2
                  first
                    | (refine mv_free ?_ (Or.inl ⟨by rfl, ?_⟩) (⟨k0, k1, k2, k3, k4, k5⟩) ?_
                       rotate_left 1
                       · intro u
                         go_simp
                         try with_reducible rfl
                       simp only [Act.put, List.setIfInBounds_toArray, List.set_cons_zero, List.set_cons_succ])
                    | (refine mv_free _ (Or.inr ⟨by rfl, rfl⟩) (⟨k0, k1, k2, k3, k4, k5⟩) ?_
                       simp only [Act.put, List.setIfInBounds_toArray, List.set_cons_zero, List.set_cons_succ])
                refine mv_late (fun K hK => ?_)
                go_simp
                refine hK.out (fun _ => True) _ _ ?_
                clear hK K
                refine mv_done ?_
                go_wp2
                go_roundw
                case rel =>
                  obtain ⟨hh2, ob⟩ := ((((HB.start hh).set 2 (.int .i64 (x1 + d)) (by simp [vtS])).set 3 (.int .i64 e1) (by simp [vtS])).is (show _ = vtS x0 e0 x1 e1 x2 e2 d 2 by simp [vtS])).fin rfl rfl rfl rfl
                  exact ⟨2, by omega, rfl, hh2.drew, (below_besideB hbel ob (by have := hb2.size; have := hz.out; omega) (by have := hbel.size; have := hz.out; omega)).drew, fun _ => r0.out (by omega), fun _ => hi, fun h => absurd h (by omega)⟩
                case measure => simp [intOf]
              · have hc : x1 < -1000000000 ∨ (-1000000000 ≤ x1 ∧ 1000000000 < x1) := by unfold InB at hi; omega
                rcases hc with hc | ⟨hc, hc2⟩
                all_goals
                  go_wp2_with (go_at_call 21; refine (lives24 _).mono ?_; rintro e w1 ⟨rfl, b4⟩)
                  go_ret
                  exact ⟨rfl, g5.trans (b4.mono g5.size)⟩
            · by_cases hi : InB x2
              · have hi' := hi
                obtain ⟨i1, i2⟩ := hi'
                replace r0 := Lib.hid r0
                replace r1 := Lib.hid r1
                replace r2 := Lib.hid r2
                have hwr : IntKind.i64.wrap (x2 + d) = x2 + d := IntWalk.i64_in _ ⟨by omega, by omega⟩
                have hq := hh
                simp only [vtS] at hq
                obtain ⟨c0, f0⟩ := hq.one 0 rfl
                obtain ⟨c1, f1⟩ := hq.one 1 rfl
                obtain ⟨c2, f2⟩ := hq.one 2 rfl
                obtain ⟨c3, f3⟩ := hq.one 3 rfl
                obtain ⟨c4, f4⟩ := hq.one 4 rfl
                obtain ⟨c5, f5⟩ := hq.one 5 rfl
                go_wp2_with fail
                refine region_moves (fun u => u.cell? ⟨w.heap.size, 0, none⟩ = some (.int .i64 x0) ∧ u.cell? ⟨w.heap.size, 1, none⟩ = some (.int .i64 e0) ∧ u.cell? ⟨w.heap.size, 2, none⟩ = some (.int .i64 x1) ∧ u.cell? ⟨w.heap.size, 3, none⟩ = some (.int .i64 e1) ∧ u.cell? ⟨w.heap.size, 4, none⟩ = some (.int .i64 x2) ∧ u.cell? ⟨w.heap.size, 5, none⟩ = some (.int .i64 e2)) [(13, [(12, 13), (11, 13), (0, 13), (1, 13), (2, 13), (3, 13), (4, 13), (5, 13), (6, 13), (7, 13), (8, 13), (9, 13), (10, 13)])] [(.free, 0), (.free, 1), (.free, 2), (.free, 3), (.take, 4), (.free, 5), (.free, 6), (.free, 7), (.free, 8), (.free, 9), (.take, 10), (.free, 11), (.free, 12), (.late, 13)] _ (by kernel_rfl) (by kernel_rfl) (by kernel_rfl) (by kernel_rfl) (by decide) rfl (fun _ _ _ _ _ h => h) ?_
                simp only [List.filterMap_cons, List.filterMap_nil, List.getElem?_toArray, List.getElem?_cons_zero, List.getElem?_cons_succ, Option.map_some]
                iterate 4
                  first
                    | (refine mv_free ?_ (Or.inl ⟨by rfl, ?_⟩) (⟨k0, k1, k2, k3, k4, k5⟩) ?_
                       rotate_left 1
                       · intro u
                         go_simp
                         try with_reducible rfl
                       simp only [Act.put, List.setIfInBounds_toArray, List.set_cons_zero, List.set_cons_succ])
                    | (refine mv_free _ (Or.inr ⟨by rfl, rfl⟩) (⟨k0, k1, k2, k3, k4, k5⟩) ?_
                       simp only [Act.put, List.setIfInBounds_toArray, List.set_cons_zero, List.set_cons_succ])
                iterate 1
                  first
                    | (refine mv_take ?_ (Or.inl ⟨by rfl, ?_⟩) (⟨k0, k1, k2, k3, k4, k5⟩) ?_
                       rotate_left 1
                       · intro u hu
                         (try dsimp only at hu)
                         go_simp
                         try with_reducible rfl
                       simp only [Act.put, List.setIfInBounds_toArray, List.set_cons_zero, List.set_cons_succ])
                    | (refine mv_take _ (Or.inr ⟨by rfl, rfl⟩) (⟨k0, k1, k2, k3, k4, k5⟩) ?_
                       simp only [Act.put, List.setIfInBounds_toArray, List.set_cons_zero, List.set_cons_succ])
                iterate 5
                  first
                    | (refine mv_free ?_ (Or.inl ⟨by rfl, ?_⟩) (⟨k0, k1, k2, k3, k4, k5⟩) ?_
                       rotate_left 1
                       · intro u
                         go_simp
                         try with_reducible rfl
                       simp only [Act.put, List.setIfInBounds_toArray, List.set_cons_zero, List.set_cons_succ])
                    | (refine mv_free _ (Or.inr ⟨by rfl, rfl⟩) (⟨k0, k1, k2, k3, k4, k5⟩) ?_
                       simp only [Act.put, List.setIfInBounds_toArray, List.set_cons_zero, List.set_cons_succ])
                iterate 1
                  first
                    | (refine mv_take ?_ (Or.inl ⟨by rfl, ?_⟩) (⟨k0, k1, k2, k3, k4, k5⟩) ?_
                       rotate_left 1
                       · intro u hu
                         (try dsimp only at hu)
                         go_simp
                         try with_reducible rfl
                       simp only [Act.put, List.setIfInBounds_toArray, List.set_cons_zero, List.set_cons_succ])
                    | (refine mv_take _ (Or.inr ⟨by rfl, rfl⟩) (⟨k0, k1, k2, k3, k4, k5⟩) ?_
                       simp only [Act.put, List.setIfInBounds_toArray, List.set_cons_zero, List.set_cons_succ])
                iterate 2
                  first
                    | (refine mv_free ?_ (Or.inl ⟨by rfl, ?_⟩) (⟨k0, k1, k2, k3, k4, k5⟩) ?_
                       rotate_left 1
                       · intro u
                         go_simp
                         try with_reducible rfl
                       simp only [Act.put, List.setIfInBounds_toArray, List.set_cons_zero, List.set_cons_succ])
                    | (refine mv_free _ (Or.inr ⟨by rfl, rfl⟩) (⟨k0, k1, k2, k3, k4, k5⟩) ?_
                       simp only [Act.put, List.setIfInBounds_toArray, List.set_cons_zero, List.set_cons_succ])
                refine mv_late (fun K hK => ?_)
                go_simp
                refine hK.out (fun _ => True) _ _ ?_
                clear hK K
                refine mv_done ?_
                go_wp2
                go_roundw
                case rel =>
                  obtain ⟨hh2, ob⟩ := ((((HB.start hh).set 4 (.int .i64 (x2 + d)) (by simp [vtS])).set 5 (.int .i64 e2) (by simp [vtS])).is (show _ = vtS x0 e0 x1 e1 x2 e2 d 3 by simp [vtS])).fin rfl rfl rfl rfl
                  exact ⟨3, by omega, rfl, hh2.drew, (below_besideB hbel ob (by have := hb2.size; have := hz.out; omega) (by have := hbel.size; have := hz.out; omega)).drew, fun _ => r0.out (by omega), fun _ => r1.out (by omega), fun _ => hi⟩
                case measure => simp [intOf]
              · have hc : x2 < -1000000000 ∨ (-1000000000 ≤ x2 ∧ 1000000000 < x2) := by unfold InB at hi; omega
                rcases hc with hc | ⟨hc, hc2⟩
                all_goals
                  go_wp2_with (go_at_call 21; refine (lives24 _).mono ?_; rintro e w1 ⟨rfl, b4⟩)
                  go_ret
                  exact ⟨rfl, g5.trans (b4.mono g5.size)⟩
          · obtain rfl : k = 3 := by omega
            obtain ⟨⟨q1, q2⟩, e1, sh⟩ := SH.out d1 d2 (r0 (by omega)) (r1 (by omega)) (r2 (by omega))
            have hw : IntKind.i64.wrap (qv + d) = qv + d := IntWalk.i64_in _ ⟨by omega, by omega⟩
            simp only [vtS] at hh
            obtain ⟨c0, f0⟩ := hh.one 0 rfl
            obtain ⟨c1, f1⟩ := hh.one 1 rfl
            obtain ⟨c2, f2⟩ := hh.one 2 rfl
            obtain ⟨c3, f3⟩ := hh.one 3 rfl
            obtain ⟨c4, f4⟩ := hh.one 4 rfl
            obtain ⟨c5, f5⟩ := hh.one 5 rfl
            go_wp2_with fail
            refine (VS.out _).mono ?_
            rintro e w3 ⟨rfl, b3⟩
            have g6 := g5.trans (b3.mono g5.size)
            clear SH VS VP VQ r0 r1 r2
            subst e1
            rcases sh with sh | sh
            · subst sh
              go_wp2_with (go_at_call 21; refine (lives24 _).mono ?_; rintro e w1 ⟨rfl, b4⟩)
              go_ret
              exact ⟨rfl, g6.trans (b4.mono g6.size)⟩
            · subst sh
              cases hz2 : (ps == 0)
              all_goals
                go_wp2_with (go_at_call 21; refine (lives24 _).mono ?_; rintro e w1 ⟨rfl, b4⟩)
                all_goals
                  go_ret
                  exact ⟨rfl, g6.trans (b4.mono g6.size)⟩
      · go_wp2_with (go_at_call 21; refine (lives24 _).mono ?_; rintro e w1 ⟨rfl, b4⟩)
        go_ret
        exact ⟨rfl, g2.trans (b4.mono g2.size)⟩
    all_goals
      go_wp2_with (go_at_call 21; refine (lives24 _).mono ?_; rintro e w1 ⟨rfl, b4⟩)
      go_ret
      exact ⟨rfl, g2.trans (b4.mono g2.size)⟩
end Go.Proofs.Ytffhhdjcodapjaa
