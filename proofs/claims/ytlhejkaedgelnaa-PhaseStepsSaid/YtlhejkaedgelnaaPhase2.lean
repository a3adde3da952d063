/- The phases, walked: what a sample asks for, and whether it comes at once. -/
import Derived.Test.YtlhejkaedgelnaaPhase1
import Derived.Test.YtlhejkaedgelnaaReg
import Derived.Test.YtlhejkaedgelnaaHb
namespace Go.Proofs.Ytlhejkaedgelnaa
open Go.ChangeShapes Go.WideShapes Go.ChangeAt Go.RowKit
set_option linter.unusedVariables false
set_option linter.unusedSimpArgs false
set_option maxRecDepth 100000 in
set_option maxHeartbeats 8000000 in
theorem pisph (n : Int) (w : World) : Calls Try.prog 84 #[.int .i64 n] w fun e w' => e = .returned (.bool (decide (0 ≤ n ∧ n ≤ 5))) ∧ w = w' := by
  go_enter Try.func84, Try.ntmps84
  go_wp2
  all_goals
    go_ret
    refine ⟨ret_bool ?_, rfl⟩
    first | (symm; apply decide_eq_true; omega) | (symm; apply decide_eq_false; omega) | (simp; omega)
def plB (c h : Int) : Bool := decide (h ≤ 5000 ∧ c < 4000)
def pvB (r : Int) : Bool := decide (-250 < r ∧ r < 250)
def pdB (r : Int) : Bool := decide (r ≤ -500)
def puB (r : Int) : Bool := decide (500 ≤ r)
set_option maxRecDepth 100000 in
set_option maxHeartbeats 8000000 in
theorem planded (c h r : Int) (w : World) : Calls Try.prog 80 #[.agg #[.int .i64 c, .int .i64 h, .int .i64 r]] w fun e w' => e = .returned (.bool (plB c h)) ∧ Below w.heap.size w w' := by
  go_enter Try.func80, Try.ntmps80
  go_wp2
  all_goals
    go_ret
    refine ⟨ret_bool ?_, (by repeat (first | exact Below.refl _ _ | assumption | apply Below.drew | apply below_drewN | (refine Below.alloc ?_ (by first | exact Nat.le_refl _ | omega | (simp <;> omega)) _) | (refine Below.setCell ?_ (by first | exact Nat.le_refl _ | omega | (simp <;> omega)) _)))⟩
    unfold plB
    first | rfl | (symm; apply decide_eq_true; omega) | (symm; apply decide_eq_false; omega) | (simp; omega)
set_option maxRecDepth 100000 in
set_option maxHeartbeats 8000000 in
theorem plevel (c h r : Int) (w : World) : Calls Try.prog 81 #[.agg #[.int .i64 c, .int .i64 h, .int .i64 r]] w fun e w' => e = .returned (.bool (pvB r)) ∧ Below w.heap.size w w' := by
  go_enter Try.func81, Try.ntmps81
  go_wp2
  all_goals
    go_ret
    refine ⟨ret_bool ?_, (by repeat (first | exact Below.refl _ _ | assumption | apply Below.drew | apply below_drewN | (refine Below.alloc ?_ (by first | exact Nat.le_refl _ | omega | (simp <;> omega)) _) | (refine Below.setCell ?_ (by first | exact Nat.le_refl _ | omega | (simp <;> omega)) _)))⟩
    unfold pvB
    first | rfl | (symm; apply decide_eq_true; omega) | (symm; apply decide_eq_false; omega) | (simp; omega)
set_option maxRecDepth 100000 in
set_option maxHeartbeats 8000000 in
theorem pdown (c h r : Int) (w : World) : Calls Try.prog 82 #[.agg #[.int .i64 c, .int .i64 h, .int .i64 r]] w fun e w' => e = .returned (.bool (pdB r)) ∧ Below w.heap.size w w' := by
  go_enter Try.func82, Try.ntmps82
  go_wp2
  all_goals
    go_ret
    refine ⟨ret_bool ?_, (by repeat (first | exact Below.refl _ _ | assumption | apply Below.drew | apply below_drewN | (refine Below.alloc ?_ (by first | exact Nat.le_refl _ | omega | (simp <;> omega)) _) | (refine Below.setCell ?_ (by first | exact Nat.le_refl _ | omega | (simp <;> omega)) _)))⟩
    unfold pdB
    first | rfl | (symm; apply decide_eq_true; omega) | (symm; apply decide_eq_false; omega) | (simp; omega)
set_option maxRecDepth 100000 in
set_option maxHeartbeats 8000000 in
theorem pup (c h r : Int) (w : World) : Calls Try.prog 83 #[.agg #[.int .i64 c, .int .i64 h, .int .i64 r]] w fun e w' => e = .returned (.bool (puB r)) ∧ Below w.heap.size w w' := by
  go_enter Try.func83, Try.ntmps83
  go_wp2
  all_goals
    go_ret
    refine ⟨ret_bool ?_, (by repeat (first | exact Below.refl _ _ | assumption | apply Below.drew | apply below_drewN | (refine Below.alloc ?_ (by first | exact Nat.le_refl _ | omega | (simp <;> omega)) _) | (refine Below.setCell ?_ (by first | exact Nat.le_refl _ | omega | (simp <;> omega)) _)))⟩
    unfold puB
    first | rfl | (symm; apply decide_eq_true; omega) | (symm; apply decide_eq_false; omega) | (simp; omega)
def FOk (i k : Nat) (b : Bool) : Prop := i < k → b = false
set_option maxRecDepth 100000 in
set_option maxHeartbeats 8000000 in
theorem pfirst1 (p v0 : Int) (b0 : Bool) (q : Nat) (w : World) (hq : Held q [.bool b0, .int .i64 v0] w) : Calls Try.prog 79 #[.int .i64 p, .slice (some ⟨q, 0, none⟩) 1 1] w fun e w' => e = .returned (.int .i64 (if b0 = true then v0 else p)) ∧ Below w.heap.size w w' := by
  have HQ := Lib.hid hq
  clear hq
  obtain ⟨R, hR⟩ : ∃ R : Int, R = (if b0 = true then v0 else p) := ⟨_, rfl⟩
  rw [← hR]
  replace hR := Lib.hid hR
  go_enter Try.func79, Try.ntmps79
  go_wp2
  go_loopw [9] (fun i u => ∃ k : Nat, k ≤ 1 ∧ i = .int .i64 (k : Int) ∧ Hid (FOk 0 k b0) ∧ Hid (Below w.heap.size w u)) (fun i _ => 1 - (intOf i).toNat)
  case atStart => exact ⟨0, by omega, rfl, Lib.hid (fun h => absurd h (by omega)), Lib.hid (by repeat (first | exact Below.refl _ _ | assumption | apply Below.drew | apply below_drewN | (refine Below.alloc ?_ (by first | exact Nat.le_refl _ | omega | (simp <;> omega)) _) | (refine Below.setCell ?_ (by first | exact Nat.le_refl _ | omega | (simp <;> omega)) _)))⟩
  case round =>
    obtain ⟨k, hk, rfl, hf, hb⟩ := hrel
    have hqq := HQ.out.below hb.out HQ.out.lt
    obtain ⟨c0, f0⟩ := hqq.one 0 rfl
    obtain ⟨c1, f1⟩ := hqq.one 1 rfl
    clear hqq
    rcases (show k = 0 ∨ k = 1 by omega) with rfl | rfl
    · cases e0 : b0
      · subst e0
        have kk : ((0 : Nat) : Int) = 0 := rfl
        go_wp2
        go_roundw
        case rel => exact ⟨0 + 1, by omega, by first | rfl | go_num, Lib.hid (fun _ => rfl), Lib.hid (hb.out.alloc hb.out.size _)⟩
        case measure => simp [intOf]
      · subst e0
        have kk : ((0 : Nat) : Int) = 0 := rfl
        go_wp2
        go_ret
        refine ⟨ret_int ?_, (hb.out.alloc hb.out.size _)⟩
        rw [hR.out]
        simp
    · have kk : ((1 : Nat) : Int) = 1 := rfl
      have g0 := hf.out (by omega)
      go_wp2
      go_ret
      refine ⟨ret_int ?_, hb.out⟩
      rw [hR.out]
      simp [g0]
set_option maxRecDepth 100000 in
set_option maxHeartbeats 8000000 in
theorem pfirst2 (p v0 v1 : Int) (b0 b1 : Bool) (q : Nat) (w : World) (hq : Held q [.bool b0, .int .i64 v0, .bool b1, .int .i64 v1] w) : Calls Try.prog 79 #[.int .i64 p, .slice (some ⟨q, 0, none⟩) 2 2] w fun e w' => e = .returned (.int .i64 (if b0 = true then v0 else (if b1 = true then v1 else p))) ∧ Below w.heap.size w w' := by
  have HQ := Lib.hid hq
  clear hq
  obtain ⟨R, hR⟩ : ∃ R : Int, R = (if b0 = true then v0 else (if b1 = true then v1 else p)) := ⟨_, rfl⟩
  rw [← hR]
  replace hR := Lib.hid hR
  go_enter Try.func79, Try.ntmps79
  go_wp2
  go_loopw [9] (fun i u => ∃ k : Nat, k ≤ 2 ∧ i = .int .i64 (k : Int) ∧ Hid (FOk 0 k b0 ∧ FOk 1 k b1) ∧ Hid (Below w.heap.size w u)) (fun i _ => 2 - (intOf i).toNat)
  case atStart => exact ⟨0, by omega, rfl, Lib.hid (⟨fun h => absurd h (by omega), fun h => absurd h (by omega)⟩), Lib.hid (by repeat (first | exact Below.refl _ _ | assumption | apply Below.drew | apply below_drewN | (refine Below.alloc ?_ (by first | exact Nat.le_refl _ | omega | (simp <;> omega)) _) | (refine Below.setCell ?_ (by first | exact Nat.le_refl _ | omega | (simp <;> omega)) _)))⟩
  case round =>
    obtain ⟨k, hk, rfl, hf, hb⟩ := hrel
    have hqq := HQ.out.below hb.out HQ.out.lt
    obtain ⟨c0, f0⟩ := hqq.one 0 rfl
    obtain ⟨c1, f1⟩ := hqq.one 1 rfl
    obtain ⟨c2, f2⟩ := hqq.one 2 rfl
    obtain ⟨c3, f3⟩ := hqq.one 3 rfl
    clear hqq
    rcases (show k = 0 ∨ k = 1 ∨ k = 2 by omega) with rfl | rfl | rfl
    · cases e0 : b0
      · subst e0
        have kk : ((0 : Nat) : Int) = 0 := rfl
        go_wp2
        go_roundw
        case rel => exact ⟨0 + 1, by omega, by first | rfl | go_num, Lib.hid (⟨fun _ => rfl, fun h => absurd h (by omega)⟩), Lib.hid (hb.out.alloc hb.out.size _)⟩
        case measure => simp [intOf]
      · subst e0
        have kk : ((0 : Nat) : Int) = 0 := rfl
        go_wp2
        go_ret
        refine ⟨ret_int ?_, (hb.out.alloc hb.out.size _)⟩
        rw [hR.out]
        simp
    · cases e1 : b1
      · subst e1
        have kk : ((1 : Nat) : Int) = 1 := rfl
        go_wp2
        go_roundw
        case rel => exact ⟨1 + 1, by omega, by first | rfl | go_num, Lib.hid (⟨fun _ => hf.out.1 (by omega), fun _ => rfl⟩), Lib.hid (hb.out.alloc hb.out.size _)⟩
        case measure => simp [intOf]
      · subst e1
        have kk : ((1 : Nat) : Int) = 1 := rfl
        go_wp2
        go_ret
        refine ⟨ret_int ?_, (hb.out.alloc hb.out.size _)⟩
        rw [hR.out]
        have g0 := hf.out.1 (by omega)
        simp [g0]
    · have kk : ((2 : Nat) : Int) = 2 := rfl
      have g0 := hf.out.1 (by omega)
      have g1 := hf.out.2 (by omega)
      go_wp2
      go_ret
      refine ⟨ret_int ?_, hb.out⟩
      rw [hR.out]
      simp [g0, g1]
set_option maxRecDepth 100000 in
set_option maxHeartbeats 8000000 in
theorem pfirst3 (p v0 v1 v2 : Int) (b0 b1 b2 : Bool) (q : Nat) (w : World) (hq : Held q [.bool b0, .int .i64 v0, .bool b1, .int .i64 v1, .bool b2, .int .i64 v2] w) : Calls Try.prog 79 #[.int .i64 p, .slice (some ⟨q, 0, none⟩) 3 3] w fun e w' => e = .returned (.int .i64 (if b0 = true then v0 else (if b1 = true then v1 else (if b2 = true then v2 else p)))) ∧ Below w.heap.size w w' := by
  have HQ := Lib.hid hq
  clear hq
  obtain ⟨R, hR⟩ : ∃ R : Int, R = (if b0 = true then v0 else (if b1 = true then v1 else (if b2 = true then v2 else p))) := ⟨_, rfl⟩
  rw [← hR]
  replace hR := Lib.hid hR
  go_enter Try.func79, Try.ntmps79
  go_wp2
  go_loopw [9] (fun i u => ∃ k : Nat, k ≤ 3 ∧ i = .int .i64 (k : Int) ∧ Hid (FOk 0 k b0 ∧ FOk 1 k b1 ∧ FOk 2 k b2) ∧ Hid (Below w.heap.size w u)) (fun i _ => 3 - (intOf i).toNat)
  case atStart => exact ⟨0, by omega, rfl, Lib.hid (⟨fun h => absurd h (by omega), fun h => absurd h (by omega), fun h => absurd h (by omega)⟩), Lib.hid (by repeat (first | exact Below.refl _ _ | assumption | apply Below.drew | apply below_drewN | (refine Below.alloc ?_ (by first | exact Nat.le_refl _ | omega | (simp <;> omega)) _) | (refine Below.setCell ?_ (by first | exact Nat.le_refl _ | omega | (simp <;> omega)) _)))⟩
  case round =>
    obtain ⟨k, hk, rfl, hf, hb⟩ := hrel
    have hqq := HQ.out.below hb.out HQ.out.lt
    obtain ⟨c0, f0⟩ := hqq.one 0 rfl
    obtain ⟨c1, f1⟩ := hqq.one 1 rfl
    obtain ⟨c2, f2⟩ := hqq.one 2 rfl
    obtain ⟨c3, f3⟩ := hqq.one 3 rfl
    obtain ⟨c4, f4⟩ := hqq.one 4 rfl
    obtain ⟨c5, f5⟩ := hqq.one 5 rfl
    clear hqq
    rcases (show k = 0 ∨ k = 1 ∨ k = 2 ∨ k = 3 by omega) with rfl | rfl | rfl | rfl
    · cases e0 : b0
      · subst e0
        have kk : ((0 : Nat) : Int) = 0 := rfl
        go_wp2
        go_roundw
        case rel => exact ⟨0 + 1, by omega, by first | rfl | go_num, Lib.hid (⟨fun _ => rfl, fun h => absurd h (by omega), fun h => absurd h (by omega)⟩), Lib.hid (hb.out.alloc hb.out.size _)⟩
        case measure => simp [intOf]
      · subst e0
        have kk : ((0 : Nat) : Int) = 0 := rfl
        go_wp2
        go_ret
        refine ⟨ret_int ?_, (hb.out.alloc hb.out.size _)⟩
        rw [hR.out]
        simp
    · cases e1 : b1
      · subst e1
        have kk : ((1 : Nat) : Int) = 1 := rfl
        go_wp2
        go_roundw
        case rel => exact ⟨1 + 1, by omega, by first | rfl | go_num, Lib.hid (⟨fun _ => hf.out.1 (by omega), fun _ => rfl, fun h => absurd h (by omega)⟩), Lib.hid (hb.out.alloc hb.out.size _)⟩
        case measure => simp [intOf]
      · subst e1
        have kk : ((1 : Nat) : Int) = 1 := rfl
        go_wp2
        go_ret
        refine ⟨ret_int ?_, (hb.out.alloc hb.out.size _)⟩
        rw [hR.out]
        have g0 := hf.out.1 (by omega)
        simp [g0]
    · cases e2 : b2
      · subst e2
        have kk : ((2 : Nat) : Int) = 2 := rfl
        go_wp2
        go_roundw
        case rel => exact ⟨2 + 1, by omega, by first | rfl | go_num, Lib.hid (⟨fun _ => hf.out.1 (by omega), fun _ => hf.out.2.1 (by omega), fun _ => rfl⟩), Lib.hid (hb.out.alloc hb.out.size _)⟩
        case measure => simp [intOf]
      · subst e2
        have kk : ((2 : Nat) : Int) = 2 := rfl
        go_wp2
        go_ret
        refine ⟨ret_int ?_, (hb.out.alloc hb.out.size _)⟩
        rw [hR.out]
        have g0 := hf.out.1 (by omega)
        have g1 := hf.out.2.1 (by omega)
        simp [g0, g1]
    · have kk : ((3 : Nat) : Int) = 3 := rfl
      have g0 := hf.out.1 (by omega)
      have g1 := hf.out.2.1 (by omega)
      have g2 := hf.out.2.2 (by omega)
      go_wp2
      go_ret
      refine ⟨ret_int ?_, hb.out⟩
      rw [hR.out]
      simp [g0, g1, g2]
theorem pa_box (w : World) (c h r : Int) : ∃ V, V = (w.alloc (.cells #[.int .i64 c, .int .i64 h, .int .i64 r] 88)) ∧ Below w.heap.size w V ∧ V.heap.size = w.heap.size + 1 ∧ ∀ u, Below (w.heap.size + 1) V u → u.cell? ⟨w.heap.size, 0, none⟩ = some (.int .i64 c) ∧ u.cell? ⟨w.heap.size, 1, none⟩ = some (.int .i64 h) ∧ u.cell? ⟨w.heap.size, 2, none⟩ = some (.int .i64 r) :=
  ⟨_, rfl, (by repeat (first | exact Below.refl _ _ | assumption | apply Below.drew | apply below_drewN | (refine Below.alloc ?_ (by first | exact Nat.le_refl _ | omega | (simp <;> omega)) _) | (refine Below.setCell ?_ (by first | exact Nat.le_refl _ | omega | (simp <;> omega)) _))), by simp, fun u hu => ⟨(bc hu (by omega)).trans (by go_simp), (bc hu (by omega)).trans (by go_simp), (bc hu (by omega)).trans (by go_simp)⟩⟩
set_option maxRecDepth 100000 in
set_option maxHeartbeats 8000000 in
theorem pask0 (c h r : Int) (w : World) : Calls Try.prog 45 #[.int .i64 0, .agg #[.int .i64 c, .int .i64 h, .int .i64 r]] w fun e w' => e = .returned (.int .i64 (if decide (4000 ≤ c) = true then 1 else 0)) ∧ Below w.heap.size w w' := by
  obtain ⟨V, eV, hb0, hz, hcs⟩ := pa_box w c h r
  obtain ⟨R, hR⟩ : ∃ R : Int, R = if decide (4000 ≤ c) = true then 1 else 0 := ⟨_, rfl⟩
  rw [← hR]
  have FI := Lib.hid (fun q u (hq : Held q [.bool (decide (4000 ≤ c)), .int .i64 1] u) => show Calls Try.prog 79 #[.int .i64 0, .slice (some ⟨q, 0, none⟩) 1 1] u fun e w2 => e = .returned (.int .i64 R) ∧ Below u.heap.size u w2 from hR ▸ pfirst1 0 1 (decide (4000 ≤ c)) q u hq)
  clear hR
  replace hb0 := Lib.hid hb0
  replace hz := Lib.hid hz
  replace hcs := Lib.hid hcs
  replace eV := Lib.hid eV
  go_enter Try.func45, Try.ntmps45
  go_wp2_with fail
  rw [← eV.out]
  obtain ⟨k0, k1, k2⟩ := hcs.out _ (Below.refl _ _)
  go_wp2_with fail
  have hq := Held.new V [.bool (decide (4000 ≤ c)), .int .i64 1] 124
  rw [hz.out] at hq
  have hb1 := (Below.refl (w.heap.size + 1) V).alloc (Nat.le_of_eq hz.out.symm) (.cells #[.bool (decide (4000 ≤ c)), .int .i64 1] 124)
  refine (FI.out _ _ hq).mono ?_
  rintro e w2 ⟨rfl, hb2⟩
  have hb2 := hb1.trans (hb2.mono (by have := hb1.size; have := hz.out; omega))
  go_wp2
  go_ret
  exact ⟨rfl, hb0.out.trans (hb2.mono (by omega))⟩
set_option maxRecDepth 100000 in
set_option maxHeartbeats 8000000 in
theorem pask1 (c h r : Int) (w : World) : Calls Try.prog 45 #[.int .i64 1, .agg #[.int .i64 c, .int .i64 h, .int .i64 r]] w fun e w' => e = .returned (.int .i64 (if decide (50000 < h) = true then 2 else if plB c h = true then 0 else 1)) ∧ Below w.heap.size w w' := by
  obtain ⟨V, eV, hb0, hz, hcs⟩ := pa_box w c h r
  have T1 := Lib.hid (fun u => planded c h r u)
  obtain ⟨R, hR⟩ : ∃ R : Int, R = if decide (50000 < h) = true then 2 else if plB c h = true then 0 else 1 := ⟨_, rfl⟩
  rw [← hR]
  have FI := Lib.hid (fun q u (hq : Held q [.bool (decide (50000 < h)), .int .i64 2, .bool (plB c h), .int .i64 0] u) => show Calls Try.prog 79 #[.int .i64 1, .slice (some ⟨q, 0, none⟩) 2 2] u fun e w2 => e = .returned (.int .i64 R) ∧ Below u.heap.size u w2 from hR ▸ pfirst2 1 2 0 (decide (50000 < h)) (plB c h) q u hq)
  clear hR
  replace hb0 := Lib.hid hb0
  replace hz := Lib.hid hz
  replace hcs := Lib.hid hcs
  replace eV := Lib.hid eV
  go_enter Try.func45, Try.ntmps45
  go_wp2_with fail
  rw [← eV.out]
  obtain ⟨k0, k1, k2⟩ := hcs.out _ (Below.refl _ _)
  go_wp2_with fail
  refine region_moves (fun u => u.cell? ⟨w.heap.size, 0, none⟩ = some (.int .i64 c) ∧ u.cell? ⟨w.heap.size, 1, none⟩ = some (.int .i64 h) ∧ u.cell? ⟨w.heap.size, 2, none⟩ = some (.int .i64 r)) [] [(.free, 0), (.free, 1), (.take, 2), (.free, 3), (.free, 4), (.take, 5), (.step, 6), (.free, 7), (.step, 8), (.step, 9), (.free, 10)] _ (by kernel_rfl) (by kernel_rfl) (by kernel_rfl) (by kernel_rfl) (by decide) rfl (fun _ _ _ _ _ h => h) ?_
  simp only [List.filterMap_cons, List.filterMap_nil, List.getElem?_toArray, List.getElem?_cons_zero, List.getElem?_cons_succ, Option.map_some]
  iterate 2
    first
      | (refine mv_free ?_ (Or.inl ⟨by rfl, ?_⟩) (⟨k0, k1, k2⟩) ?_
         rotate_left 1
         · intro u
           go_simp
           try with_reducible rfl
         simp only [Act.put, List.setIfInBounds_toArray, List.set_cons_zero, List.set_cons_succ])
      | (refine mv_free _ (Or.inr ⟨by rfl, rfl⟩) (⟨k0, k1, k2⟩) ?_
         simp only [Act.put, List.setIfInBounds_toArray, List.set_cons_zero, List.set_cons_succ])
  iterate 1
    first
      | (refine mv_take ?_ (Or.inl ⟨by rfl, ?_⟩) (⟨k0, k1, k2⟩) ?_
         rotate_left 1
         · intro u hu
           (try dsimp only at hu)
           go_simp
           try with_reducible rfl
         simp only [Act.put, List.setIfInBounds_toArray, List.set_cons_zero, List.set_cons_succ])
      | (refine mv_take _ (Or.inr ⟨by rfl, rfl⟩) (⟨k0, k1, k2⟩) ?_
         simp only [Act.put, List.setIfInBounds_toArray, List.set_cons_zero, List.set_cons_succ])
  iterate 2
    first
      | (refine mv_free ?_ (Or.inl ⟨by rfl, ?_⟩) (⟨k0, k1, k2⟩) ?_
         rotate_left 1
         · intro u
           go_simp
           try with_reducible rfl
         simp only [Act.put, List.setIfInBounds_toArray, List.set_cons_zero, List.set_cons_succ])
      | (refine mv_free _ (Or.inr ⟨by rfl, rfl⟩) (⟨k0, k1, k2⟩) ?_
         simp only [Act.put, List.setIfInBounds_toArray, List.set_cons_zero, List.set_cons_succ])
  iterate 1
    first
      | (refine mv_take ?_ (Or.inl ⟨by rfl, ?_⟩) (⟨k0, k1, k2⟩) ?_
         rotate_left 1
         · intro u hu
           (try dsimp only at hu)
           go_simp
           try with_reducible rfl
         simp only [Act.put, List.setIfInBounds_toArray, List.set_cons_zero, List.set_cons_succ])
      | (refine mv_take _ (Or.inr ⟨by rfl, rfl⟩) (⟨k0, k1, k2⟩) ?_
         simp only [Act.put, List.setIfInBounds_toArray, List.set_cons_zero, List.set_cons_succ])
  refine mv_step (fun K hK => ?_)
  go_simp
  refine (T1.out _).mono ?_
  rintro e w1 ⟨rfl, hb1⟩
  have hb1 := ((Below.refl (w.heap.size + 1) V).drew).trans (hb1.mono (by have := hz.out; show _ ≤ V.heap.size; omega))
  obtain ⟨k0, k1, k2⟩ := hcs.out _ hb1
  go_wp2_with fail
  refine hK.out _ _ _ (fun u hu => hu) (⟨k0, k1, k2⟩) ?_
  clear hK K
  iterate 1
    first
      | (refine mv_free ?_ (Or.inl ⟨by rfl, ?_⟩) (⟨k0, k1, k2⟩) ?_
         rotate_left 1
         · intro u
           go_simp
           try with_reducible rfl
         simp only [Act.put, List.setIfInBounds_toArray, List.set_cons_zero, List.set_cons_succ])
      | (refine mv_free _ (Or.inr ⟨by rfl, rfl⟩) (⟨k0, k1, k2⟩) ?_
         simp only [Act.put, List.setIfInBounds_toArray, List.set_cons_zero, List.set_cons_succ])
  refine mv_step (fun K hK => ?_)
  go_simp
  have hq := Held.new w1 [.bool (decide (50000 < h)), .int .i64 2, .bool (plB c h), .int .i64 0] 124
  have hb8 := Below.alloc hb1 (by have := hb1.size; have := hz.out; show _ ≤ w1.heap.size; omega) (.cells #[.bool (decide (50000 < h)), .int .i64 2, .bool (plB c h), .int .i64 0] 124)
  clear hb1
  go_wp2_with fail
  obtain ⟨k0, k1, k2⟩ := hcs.out _ hb8
  refine hK.out _ _ _ (fun u hu => hu) (⟨k0, k1, k2⟩) ?_
  clear hK K
  refine mv_step (fun K hK => ?_)
  go_simp
  refine (FI.out _ _ hq).mono ?_
  rintro e w9 ⟨rfl, hb9⟩
  have hb9 := hb8.trans (hb9.mono (by have := hb8.size; have := hz.out; omega))
  clear hb8
  obtain ⟨k0, k1, k2⟩ := hcs.out _ hb9
  go_wp2_with fail
  refine hK.out _ _ _ (fun u hu => hu) (⟨k0, k1, k2⟩) ?_
  clear hK K
  iterate 1
    first
      | (refine mv_free ?_ (Or.inl ⟨by rfl, ?_⟩) (⟨k0, k1, k2⟩) ?_
         rotate_left 1
         · intro u
           go_simp
           try with_reducible rfl
         simp only [Act.put, List.setIfInBounds_toArray, List.set_cons_zero, List.set_cons_succ])
      | (refine mv_free _ (Or.inr ⟨by rfl, rfl⟩) (⟨k0, k1, k2⟩) ?_
         simp only [Act.put, List.setIfInBounds_toArray, List.set_cons_zero, List.set_cons_succ])
  refine mv_done ?_
  go_wp2
  go_ret
  exact ⟨rfl, hb0.out.trans (hb9.mono (by omega))⟩
set_option maxRecDepth 100000 in
set_option maxHeartbeats 8000000 in
theorem pask2 (c h r : Int) (w : World) : Calls Try.prog 45 #[.int .i64 2, .agg #[.int .i64 c, .int .i64 h, .int .i64 r]] w fun e w' => e = .returned (.int .i64 (if pvB r = true then 3 else if pdB r = true then 4 else 2)) ∧ Below w.heap.size w w' := by
  obtain ⟨V, eV, hb0, hz, hcs⟩ := pa_box w c h r
  have T0 := Lib.hid (fun u => plevel c h r u)
  have T1 := Lib.hid (fun u => pdown c h r u)
  obtain ⟨R, hR⟩ : ∃ R : Int, R = if pvB r = true then 3 else if pdB r = true then 4 else 2 := ⟨_, rfl⟩
  rw [← hR]
  have FI := Lib.hid (fun q u (hq : Held q [.bool (pvB r), .int .i64 3, .bool (pdB r), .int .i64 4] u) => show Calls Try.prog 79 #[.int .i64 2, .slice (some ⟨q, 0, none⟩) 2 2] u fun e w2 => e = .returned (.int .i64 R) ∧ Below u.heap.size u w2 from hR ▸ pfirst2 2 3 4 (pvB r) (pdB r) q u hq)
  clear hR
  replace hb0 := Lib.hid hb0
  replace hz := Lib.hid hz
  replace hcs := Lib.hid hcs
  replace eV := Lib.hid eV
  go_enter Try.func45, Try.ntmps45
  go_wp2_with fail
  rw [← eV.out]
  obtain ⟨k0, k1, k2⟩ := hcs.out _ (Below.refl _ _)
  go_wp2_with fail
  refine region_moves (fun u => u.cell? ⟨w.heap.size, 0, none⟩ = some (.int .i64 c) ∧ u.cell? ⟨w.heap.size, 1, none⟩ = some (.int .i64 h) ∧ u.cell? ⟨w.heap.size, 2, none⟩ = some (.int .i64 r)) [] [(.free, 0), (.take, 1), (.take, 4), (.step, 2), (.free, 3), (.step, 5), (.free, 6), (.step, 7), (.step, 8), (.free, 9)] _ (by kernel_rfl) (by kernel_rfl) (by kernel_rfl) (by kernel_rfl) (by decide) rfl (fun _ _ _ _ _ h => h) ?_
  simp only [List.filterMap_cons, List.filterMap_nil, List.getElem?_toArray, List.getElem?_cons_zero, List.getElem?_cons_succ, Option.map_some]
  iterate 1
    first
      | (refine mv_free ?_ (Or.inl ⟨by rfl, ?_⟩) (⟨k0, k1, k2⟩) ?_
         rotate_left 1
         · intro u
           go_simp
           try with_reducible rfl
         simp only [Act.put, List.setIfInBounds_toArray, List.set_cons_zero, List.set_cons_succ])
      | (refine mv_free _ (Or.inr ⟨by rfl, rfl⟩) (⟨k0, k1, k2⟩) ?_
         simp only [Act.put, List.setIfInBounds_toArray, List.set_cons_zero, List.set_cons_succ])
  iterate 2
    first
      | (refine mv_take ?_ (Or.inl ⟨by rfl, ?_⟩) (⟨k0, k1, k2⟩) ?_
         rotate_left 1
         · intro u hu
           (try dsimp only at hu)
           go_simp
           try with_reducible rfl
         simp only [Act.put, List.setIfInBounds_toArray, List.set_cons_zero, List.set_cons_succ])
      | (refine mv_take _ (Or.inr ⟨by rfl, rfl⟩) (⟨k0, k1, k2⟩) ?_
         simp only [Act.put, List.setIfInBounds_toArray, List.set_cons_zero, List.set_cons_succ])
  refine mv_step (fun K hK => ?_)
  go_simp
  refine (T0.out _).mono ?_
  rintro e w1 ⟨rfl, hb1⟩
  have hb1 := ((Below.refl (w.heap.size + 1) V).drew).trans (hb1.mono (by have := hz.out; show _ ≤ V.heap.size; omega))
  obtain ⟨k0, k1, k2⟩ := hcs.out _ hb1
  go_wp2_with fail
  refine hK.out _ _ _ (fun u hu => hu) (⟨k0, k1, k2⟩) ?_
  clear hK K
  iterate 1
    first
      | (refine mv_free ?_ (Or.inl ⟨by rfl, ?_⟩) (⟨k0, k1, k2⟩) ?_
         rotate_left 1
         · intro u
           go_simp
           try with_reducible rfl
         simp only [Act.put, List.setIfInBounds_toArray, List.set_cons_zero, List.set_cons_succ])
      | (refine mv_free _ (Or.inr ⟨by rfl, rfl⟩) (⟨k0, k1, k2⟩) ?_
         simp only [Act.put, List.setIfInBounds_toArray, List.set_cons_zero, List.set_cons_succ])
  refine mv_step (fun K hK => ?_)
  go_simp
  refine (T1.out _).mono ?_
  rintro e w2 ⟨rfl, hb2⟩
  have hb2 := (hb1).trans (hb2.mono (by have := hb1.size; have := hz.out; show _ ≤ w1.heap.size; omega))
  clear hb1
  obtain ⟨k0, k1, k2⟩ := hcs.out _ hb2
  go_wp2_with fail
  refine hK.out _ _ _ (fun u hu => hu) (⟨k0, k1, k2⟩) ?_
  clear hK K
  iterate 1
    first
      | (refine mv_free ?_ (Or.inl ⟨by rfl, ?_⟩) (⟨k0, k1, k2⟩) ?_
         rotate_left 1
         · intro u
           go_simp
           try with_reducible rfl
         simp only [Act.put, List.setIfInBounds_toArray, List.set_cons_zero, List.set_cons_succ])
      | (refine mv_free _ (Or.inr ⟨by rfl, rfl⟩) (⟨k0, k1, k2⟩) ?_
         simp only [Act.put, List.setIfInBounds_toArray, List.set_cons_zero, List.set_cons_succ])
  refine mv_step (fun K hK => ?_)
  go_simp
  have hq := Held.new w2 [.bool (pvB r), .int .i64 3, .bool (pdB r), .int .i64 4] 124
  have hb8 := Below.alloc hb2 (by have := hb2.size; have := hz.out; show _ ≤ w2.heap.size; omega) (.cells #[.bool (pvB r), .int .i64 3, .bool (pdB r), .int .i64 4] 124)
  clear hb2
  go_wp2_with fail
  obtain ⟨k0, k1, k2⟩ := hcs.out _ hb8
  refine hK.out _ _ _ (fun u hu => hu) (⟨k0, k1, k2⟩) ?_
  clear hK K
  refine mv_step (fun K hK => ?_)
  go_simp
  refine (FI.out _ _ hq).mono ?_
  rintro e w9 ⟨rfl, hb9⟩
  have hb9 := hb8.trans (hb9.mono (by have := hb8.size; have := hz.out; omega))
  clear hb8
  obtain ⟨k0, k1, k2⟩ := hcs.out _ hb9
  go_wp2_with fail
  refine hK.out _ _ _ (fun u hu => hu) (⟨k0, k1, k2⟩) ?_
  clear hK K
  iterate 1
    first
      | (refine mv_free ?_ (Or.inl ⟨by rfl, ?_⟩) (⟨k0, k1, k2⟩) ?_
         rotate_left 1
         · intro u
           go_simp
           try with_reducible rfl
         simp only [Act.put, List.setIfInBounds_toArray, List.set_cons_zero, List.set_cons_succ])
      | (refine mv_free _ (Or.inr ⟨by rfl, rfl⟩) (⟨k0, k1, k2⟩) ?_
         simp only [Act.put, List.setIfInBounds_toArray, List.set_cons_zero, List.set_cons_succ])
  refine mv_done ?_
  go_wp2
  go_ret
  exact ⟨rfl, hb0.out.trans (hb9.mono (by omega))⟩
set_option maxRecDepth 100000 in
set_option maxHeartbeats 8000000 in
theorem pask3 (c h r : Int) (w : World) : Calls Try.prog 45 #[.int .i64 3, .agg #[.int .i64 c, .int .i64 h, .int .i64 r]] w fun e w' => e = .returned (.int .i64 (if puB r = true then 2 else if pdB r = true then 4 else 3)) ∧ Below w.heap.size w w' := by
  obtain ⟨V, eV, hb0, hz, hcs⟩ := pa_box w c h r
  have T0 := Lib.hid (fun u => pup c h r u)
  have T1 := Lib.hid (fun u => pdown c h r u)
  obtain ⟨R, hR⟩ : ∃ R : Int, R = if puB r = true then 2 else if pdB r = true then 4 else 3 := ⟨_, rfl⟩
  rw [← hR]
  have FI := Lib.hid (fun q u (hq : Held q [.bool (puB r), .int .i64 2, .bool (pdB r), .int .i64 4] u) => show Calls Try.prog 79 #[.int .i64 3, .slice (some ⟨q, 0, none⟩) 2 2] u fun e w2 => e = .returned (.int .i64 R) ∧ Below u.heap.size u w2 from hR ▸ pfirst2 3 2 4 (puB r) (pdB r) q u hq)
  clear hR
  replace hb0 := Lib.hid hb0
  replace hz := Lib.hid hz
  replace hcs := Lib.hid hcs
  replace eV := Lib.hid eV
  go_enter Try.func45, Try.ntmps45
  go_wp2_with fail
  rw [← eV.out]
  obtain ⟨k0, k1, k2⟩ := hcs.out _ (Below.refl _ _)
  go_wp2_with fail
  refine region_moves (fun u => u.cell? ⟨w.heap.size, 0, none⟩ = some (.int .i64 c) ∧ u.cell? ⟨w.heap.size, 1, none⟩ = some (.int .i64 h) ∧ u.cell? ⟨w.heap.size, 2, none⟩ = some (.int .i64 r)) [] [(.free, 0), (.take, 1), (.take, 4), (.step, 2), (.free, 3), (.step, 5), (.free, 6), (.step, 7), (.step, 8), (.free, 9)] _ (by kernel_rfl) (by kernel_rfl) (by kernel_rfl) (by kernel_rfl) (by decide) rfl (fun _ _ _ _ _ h => h) ?_
  simp only [List.filterMap_cons, List.filterMap_nil, List.getElem?_toArray, List.getElem?_cons_zero, List.getElem?_cons_succ, Option.map_some]
  iterate 1
    first
      | (refine mv_free ?_ (Or.inl ⟨by rfl, ?_⟩) (⟨k0, k1, k2⟩) ?_
         rotate_left 1
         · intro u
           go_simp
           try with_reducible rfl
         simp only [Act.put, List.setIfInBounds_toArray, List.set_cons_zero, List.set_cons_succ])
      | (refine mv_free _ (Or.inr ⟨by rfl, rfl⟩) (⟨k0, k1, k2⟩) ?_
         simp only [Act.put, List.setIfInBounds_toArray, List.set_cons_zero, List.set_cons_succ])
  iterate 2
    first
      | (refine mv_take ?_ (Or.inl ⟨by rfl, ?_⟩) (⟨k0, k1, k2⟩) ?_
         rotate_left 1
         · intro u hu
           (try dsimp only at hu)
           go_simp
           try with_reducible rfl
         simp only [Act.put, List.setIfInBounds_toArray, List.set_cons_zero, List.set_cons_succ])
      | (refine mv_take _ (Or.inr ⟨by rfl, rfl⟩) (⟨k0, k1, k2⟩) ?_
         simp only [Act.put, List.setIfInBounds_toArray, List.set_cons_zero, List.set_cons_succ])
  refine mv_step (fun K hK => ?_)
  go_simp
  refine (T0.out _).mono ?_
  rintro e w1 ⟨rfl, hb1⟩
  have hb1 := ((Below.refl (w.heap.size + 1) V).drew).trans (hb1.mono (by have := hz.out; show _ ≤ V.heap.size; omega))
  obtain ⟨k0, k1, k2⟩ := hcs.out _ hb1
  go_wp2_with fail
  refine hK.out _ _ _ (fun u hu => hu) (⟨k0, k1, k2⟩) ?_
  clear hK K
  iterate 1
    first
      | (refine mv_free ?_ (Or.inl ⟨by rfl, ?_⟩) (⟨k0, k1, k2⟩) ?_
         rotate_left 1
         · intro u
           go_simp
           try with_reducible rfl
         simp only [Act.put, List.setIfInBounds_toArray, List.set_cons_zero, List.set_cons_succ])
      | (refine mv_free _ (Or.inr ⟨by rfl, rfl⟩) (⟨k0, k1, k2⟩) ?_
         simp only [Act.put, List.setIfInBounds_toArray, List.set_cons_zero, List.set_cons_succ])
  refine mv_step (fun K hK => ?_)
  go_simp
  refine (T1.out _).mono ?_
  rintro e w2 ⟨rfl, hb2⟩
  have hb2 := (hb1).trans (hb2.mono (by have := hb1.size; have := hz.out; show _ ≤ w1.heap.size; omega))
  clear hb1
  obtain ⟨k0, k1, k2⟩ := hcs.out _ hb2
  go_wp2_with fail
  refine hK.out _ _ _ (fun u hu => hu) (⟨k0, k1, k2⟩) ?_
  clear hK K
  iterate 1
    first
      | (refine mv_free ?_ (Or.inl ⟨by rfl, ?_⟩) (⟨k0, k1, k2⟩) ?_
         rotate_left 1
         · intro u
           go_simp
           try with_reducible rfl
         simp only [Act.put, List.setIfInBounds_toArray, List.set_cons_zero, List.set_cons_succ])
      | (refine mv_free _ (Or.inr ⟨by rfl, rfl⟩) (⟨k0, k1, k2⟩) ?_
         simp only [Act.put, List.setIfInBounds_toArray, List.set_cons_zero, List.set_cons_succ])
  refine mv_step (fun K hK => ?_)
  go_simp
  have hq := Held.new w2 [.bool (puB r), .int .i64 2, .bool (pdB r), .int .i64 4] 124
  have hb8 := Below.alloc hb2 (by have := hb2.size; have := hz.out; show _ ≤ w2.heap.size; omega) (.cells #[.bool (puB r), .int .i64 2, .bool (pdB r), .int .i64 4] 124)
  clear hb2
  go_wp2_with fail
  obtain ⟨k0, k1, k2⟩ := hcs.out _ hb8
  refine hK.out _ _ _ (fun u hu => hu) (⟨k0, k1, k2⟩) ?_
  clear hK K
  refine mv_step (fun K hK => ?_)
  go_simp
  refine (FI.out _ _ hq).mono ?_
  rintro e w9 ⟨rfl, hb9⟩
  have hb9 := hb8.trans (hb9.mono (by have := hb8.size; have := hz.out; omega))
  clear hb8
  obtain ⟨k0, k1, k2⟩ := hcs.out _ hb9
  go_wp2_with fail
  refine hK.out _ _ _ (fun u hu => hu) (⟨k0, k1, k2⟩) ?_
  clear hK K
  iterate 1
    first
      | (refine mv_free ?_ (Or.inl ⟨by rfl, ?_⟩) (⟨k0, k1, k2⟩) ?_
         rotate_left 1
         · intro u
           go_simp
           try with_reducible rfl
         simp only [Act.put, List.setIfInBounds_toArray, List.set_cons_zero, List.set_cons_succ])
      | (refine mv_free _ (Or.inr ⟨by rfl, rfl⟩) (⟨k0, k1, k2⟩) ?_
         simp only [Act.put, List.setIfInBounds_toArray, List.set_cons_zero, List.set_cons_succ])
  refine mv_done ?_
  go_wp2
  go_ret
  exact ⟨rfl, hb0.out.trans (hb9.mono (by omega))⟩
set_option maxRecDepth 100000 in
set_option maxHeartbeats 8000000 in
theorem pask4 (c h r : Int) (w : World) : Calls Try.prog 45 #[.int .i64 4, .agg #[.int .i64 c, .int .i64 h, .int .i64 r]] w fun e w' => e = .returned (.int .i64 (if decide (h < 50000) = true then 5 else if pvB r = true then 3 else if puB r = true then 2 else 4)) ∧ Below w.heap.size w w' := by
  obtain ⟨V, eV, hb0, hz, hcs⟩ := pa_box w c h r
  have T1 := Lib.hid (fun u => plevel c h r u)
  have T2 := Lib.hid (fun u => pup c h r u)
  obtain ⟨R, hR⟩ : ∃ R : Int, R = if decide (h < 50000) = true then 5 else if pvB r = true then 3 else if puB r = true then 2 else 4 := ⟨_, rfl⟩
  rw [← hR]
  have FI := Lib.hid (fun q u (hq : Held q [.bool (decide (h < 50000)), .int .i64 5, .bool (pvB r), .int .i64 3, .bool (puB r), .int .i64 2] u) => show Calls Try.prog 79 #[.int .i64 4, .slice (some ⟨q, 0, none⟩) 3 3] u fun e w2 => e = .returned (.int .i64 R) ∧ Below u.heap.size u w2 from hR ▸ pfirst3 4 5 3 2 (decide (h < 50000)) (pvB r) (puB r) q u hq)
  clear hR
  replace hb0 := Lib.hid hb0
  replace hz := Lib.hid hz
  replace hcs := Lib.hid hcs
  replace eV := Lib.hid eV
  go_enter Try.func45, Try.ntmps45
  go_wp2_with fail
  rw [← eV.out]
  obtain ⟨k0, k1, k2⟩ := hcs.out _ (Below.refl _ _)
  go_wp2_with fail
  refine region_moves (fun u => u.cell? ⟨w.heap.size, 0, none⟩ = some (.int .i64 c) ∧ u.cell? ⟨w.heap.size, 1, none⟩ = some (.int .i64 h) ∧ u.cell? ⟨w.heap.size, 2, none⟩ = some (.int .i64 r)) [] [(.free, 0), (.free, 1), (.take, 2), (.free, 3), (.free, 4), (.take, 5), (.take, 8), (.step, 6), (.free, 7), (.step, 9), (.free, 10), (.step, 11), (.step, 12), (.free, 13)] _ (by kernel_rfl) (by kernel_rfl) (by kernel_rfl) (by kernel_rfl) (by decide) rfl (fun _ _ _ _ _ h => h) ?_
  simp only [List.filterMap_cons, List.filterMap_nil, List.getElem?_toArray, List.getElem?_cons_zero, List.getElem?_cons_succ, Option.map_some]
  iterate 2
    first
      | (refine mv_free ?_ (Or.inl ⟨by rfl, ?_⟩) (⟨k0, k1, k2⟩) ?_
         rotate_left 1
         · intro u
           go_simp
           try with_reducible rfl
         simp only [Act.put, List.setIfInBounds_toArray, List.set_cons_zero, List.set_cons_succ])
      | (refine mv_free _ (Or.inr ⟨by rfl, rfl⟩) (⟨k0, k1, k2⟩) ?_
         simp only [Act.put, List.setIfInBounds_toArray, List.set_cons_zero, List.set_cons_succ])
  iterate 1
    first
      | (refine mv_take ?_ (Or.inl ⟨by rfl, ?_⟩) (⟨k0, k1, k2⟩) ?_
         rotate_left 1
         · intro u hu
           (try dsimp only at hu)
           go_simp
           try with_reducible rfl
         simp only [Act.put, List.setIfInBounds_toArray, List.set_cons_zero, List.set_cons_succ])
      | (refine mv_take _ (Or.inr ⟨by rfl, rfl⟩) (⟨k0, k1, k2⟩) ?_
         simp only [Act.put, List.setIfInBounds_toArray, List.set_cons_zero, List.set_cons_succ])
  iterate 2
    first
      | (refine mv_free ?_ (Or.inl ⟨by rfl, ?_⟩) (⟨k0, k1, k2⟩) ?_
         rotate_left 1
         · intro u
           go_simp
           try with_reducible rfl
         simp only [Act.put, List.setIfInBounds_toArray, List.set_cons_zero, List.set_cons_succ])
      | (refine mv_free _ (Or.inr ⟨by rfl, rfl⟩) (⟨k0, k1, k2⟩) ?_
         simp only [Act.put, List.setIfInBounds_toArray, List.set_cons_zero, List.set_cons_succ])
  iterate 2
    first
      | (refine mv_take ?_ (Or.inl ⟨by rfl, ?_⟩) (⟨k0, k1, k2⟩) ?_
         rotate_left 1
         · intro u hu
           (try dsimp only at hu)
           go_simp
           try with_reducible rfl
         simp only [Act.put, List.setIfInBounds_toArray, List.set_cons_zero, List.set_cons_succ])
      | (refine mv_take _ (Or.inr ⟨by rfl, rfl⟩) (⟨k0, k1, k2⟩) ?_
         simp only [Act.put, List.setIfInBounds_toArray, List.set_cons_zero, List.set_cons_succ])
  refine mv_step (fun K hK => ?_)
  go_simp
  refine (T1.out _).mono ?_
  rintro e w1 ⟨rfl, hb1⟩
  have hb1 := ((Below.refl (w.heap.size + 1) V).drew).trans (hb1.mono (by have := hz.out; show _ ≤ V.heap.size; omega))
  obtain ⟨k0, k1, k2⟩ := hcs.out _ hb1
  go_wp2_with fail
  refine hK.out _ _ _ (fun u hu => hu) (⟨k0, k1, k2⟩) ?_
  clear hK K
  iterate 1
    first
      | (refine mv_free ?_ (Or.inl ⟨by rfl, ?_⟩) (⟨k0, k1, k2⟩) ?_
         rotate_left 1
         · intro u
           go_simp
           try with_reducible rfl
         simp only [Act.put, List.setIfInBounds_toArray, List.set_cons_zero, List.set_cons_succ])
      | (refine mv_free _ (Or.inr ⟨by rfl, rfl⟩) (⟨k0, k1, k2⟩) ?_
         simp only [Act.put, List.setIfInBounds_toArray, List.set_cons_zero, List.set_cons_succ])
  refine mv_step (fun K hK => ?_)
  go_simp
  refine (T2.out _).mono ?_
  rintro e w2 ⟨rfl, hb2⟩
  have hb2 := (hb1).trans (hb2.mono (by have := hb1.size; have := hz.out; show _ ≤ w1.heap.size; omega))
  clear hb1
  obtain ⟨k0, k1, k2⟩ := hcs.out _ hb2
  go_wp2_with fail
  refine hK.out _ _ _ (fun u hu => hu) (⟨k0, k1, k2⟩) ?_
  clear hK K
  iterate 1
    first
      | (refine mv_free ?_ (Or.inl ⟨by rfl, ?_⟩) (⟨k0, k1, k2⟩) ?_
         rotate_left 1
         · intro u
           go_simp
           try with_reducible rfl
         simp only [Act.put, List.setIfInBounds_toArray, List.set_cons_zero, List.set_cons_succ])
      | (refine mv_free _ (Or.inr ⟨by rfl, rfl⟩) (⟨k0, k1, k2⟩) ?_
         simp only [Act.put, List.setIfInBounds_toArray, List.set_cons_zero, List.set_cons_succ])
  refine mv_step (fun K hK => ?_)
  go_simp
  have hq := Held.new w2 [.bool (decide (h < 50000)), .int .i64 5, .bool (pvB r), .int .i64 3, .bool (puB r), .int .i64 2] 124
  have hb8 := Below.alloc hb2 (by have := hb2.size; have := hz.out; show _ ≤ w2.heap.size; omega) (.cells #[.bool (decide (h < 50000)), .int .i64 5, .bool (pvB r), .int .i64 3, .bool (puB r), .int .i64 2] 124)
  clear hb2
  go_wp2_with fail
  obtain ⟨k0, k1, k2⟩ := hcs.out _ hb8
  refine hK.out _ _ _ (fun u hu => hu) (⟨k0, k1, k2⟩) ?_
  clear hK K
  refine mv_step (fun K hK => ?_)
  go_simp
  refine (FI.out _ _ hq).mono ?_
  rintro e w9 ⟨rfl, hb9⟩
  have hb9 := hb8.trans (hb9.mono (by have := hb8.size; have := hz.out; omega))
  clear hb8
  obtain ⟨k0, k1, k2⟩ := hcs.out _ hb9
  go_wp2_with fail
  refine hK.out _ _ _ (fun u hu => hu) (⟨k0, k1, k2⟩) ?_
  clear hK K
  iterate 1
    first
      | (refine mv_free ?_ (Or.inl ⟨by rfl, ?_⟩) (⟨k0, k1, k2⟩) ?_
         rotate_left 1
         · intro u
           go_simp
           try with_reducible rfl
         simp only [Act.put, List.setIfInBounds_toArray, List.set_cons_zero, List.set_cons_succ])
      | (refine mv_free _ (Or.inr ⟨by rfl, rfl⟩) (⟨k0, k1, k2⟩) ?_
         simp only [Act.put, List.setIfInBounds_toArray, List.set_cons_zero, List.set_cons_succ])
  refine mv_done ?_
  go_wp2
  go_ret
  exact ⟨rfl, hb0.out.trans (hb9.mono (by omega))⟩
set_option maxRecDepth 100000 in
set_option maxHeartbeats 8000000 in
theorem pask5 (c h r : Int) (w : World) : Calls Try.prog 45 #[.int .i64 5, .agg #[.int .i64 c, .int .i64 h, .int .i64 r]] w fun e w' => e = .returned (.int .i64 (if plB c h = true then 0 else if decide (60000 < h) = true then 2 else 5)) ∧ Below w.heap.size w w' := by
  obtain ⟨V, eV, hb0, hz, hcs⟩ := pa_box w c h r
  have T0 := Lib.hid (fun u => planded c h r u)
  obtain ⟨R, hR⟩ : ∃ R : Int, R = if plB c h = true then 0 else if decide (60000 < h) = true then 2 else 5 := ⟨_, rfl⟩
  rw [← hR]
  have FI := Lib.hid (fun q u (hq : Held q [.bool (plB c h), .int .i64 0, .bool (decide (60000 < h)), .int .i64 2] u) => show Calls Try.prog 79 #[.int .i64 5, .slice (some ⟨q, 0, none⟩) 2 2] u fun e w2 => e = .returned (.int .i64 R) ∧ Below u.heap.size u w2 from hR ▸ pfirst2 5 0 2 (plB c h) (decide (60000 < h)) q u hq)
  clear hR
  replace hb0 := Lib.hid hb0
  replace hz := Lib.hid hz
  replace hcs := Lib.hid hcs
  replace eV := Lib.hid eV
  go_enter Try.func45, Try.ntmps45
  go_wp2_with fail
  rw [← eV.out]
  obtain ⟨k0, k1, k2⟩ := hcs.out _ (Below.refl _ _)
  go_wp2_with fail
  refine region_moves (fun u => u.cell? ⟨w.heap.size, 0, none⟩ = some (.int .i64 c) ∧ u.cell? ⟨w.heap.size, 1, none⟩ = some (.int .i64 h) ∧ u.cell? ⟨w.heap.size, 2, none⟩ = some (.int .i64 r)) [] [(.free, 0), (.take, 1), (.free, 4), (.take, 5), (.free, 6), (.free, 7), (.step, 2), (.free, 3), (.step, 8), (.step, 9), (.free, 10)] _ (by kernel_rfl) (by kernel_rfl) (by kernel_rfl) (by kernel_rfl) (by decide) rfl (fun _ _ _ _ _ h => h) ?_
  simp only [List.filterMap_cons, List.filterMap_nil, List.getElem?_toArray, List.getElem?_cons_zero, List.getElem?_cons_succ, Option.map_some]
  iterate 1
    first
      | (refine mv_free ?_ (Or.inl ⟨by rfl, ?_⟩) (⟨k0, k1, k2⟩) ?_
         rotate_left 1
         · intro u
           go_simp
           try with_reducible rfl
         simp only [Act.put, List.setIfInBounds_toArray, List.set_cons_zero, List.set_cons_succ])
      | (refine mv_free _ (Or.inr ⟨by rfl, rfl⟩) (⟨k0, k1, k2⟩) ?_
         simp only [Act.put, List.setIfInBounds_toArray, List.set_cons_zero, List.set_cons_succ])
  iterate 1
    first
      | (refine mv_take ?_ (Or.inl ⟨by rfl, ?_⟩) (⟨k0, k1, k2⟩) ?_
         rotate_left 1
         · intro u hu
           (try dsimp only at hu)
           go_simp
           try with_reducible rfl
         simp only [Act.put, List.setIfInBounds_toArray, List.set_cons_zero, List.set_cons_succ])
      | (refine mv_take _ (Or.inr ⟨by rfl, rfl⟩) (⟨k0, k1, k2⟩) ?_
         simp only [Act.put, List.setIfInBounds_toArray, List.set_cons_zero, List.set_cons_succ])
  iterate 1
    first
      | (refine mv_free ?_ (Or.inl ⟨by rfl, ?_⟩) (⟨k0, k1, k2⟩) ?_
         rotate_left 1
         · intro u
           go_simp
           try with_reducible rfl
         simp only [Act.put, List.setIfInBounds_toArray, List.set_cons_zero, List.set_cons_succ])
      | (refine mv_free _ (Or.inr ⟨by rfl, rfl⟩) (⟨k0, k1, k2⟩) ?_
         simp only [Act.put, List.setIfInBounds_toArray, List.set_cons_zero, List.set_cons_succ])
  iterate 1
    first
      | (refine mv_take ?_ (Or.inl ⟨by rfl, ?_⟩) (⟨k0, k1, k2⟩) ?_
         rotate_left 1
         · intro u hu
           (try dsimp only at hu)
           go_simp
           try with_reducible rfl
         simp only [Act.put, List.setIfInBounds_toArray, List.set_cons_zero, List.set_cons_succ])
      | (refine mv_take _ (Or.inr ⟨by rfl, rfl⟩) (⟨k0, k1, k2⟩) ?_
         simp only [Act.put, List.setIfInBounds_toArray, List.set_cons_zero, List.set_cons_succ])
  iterate 2
    first
      | (refine mv_free ?_ (Or.inl ⟨by rfl, ?_⟩) (⟨k0, k1, k2⟩) ?_
         rotate_left 1
         · intro u
           go_simp
           try with_reducible rfl
         simp only [Act.put, List.setIfInBounds_toArray, List.set_cons_zero, List.set_cons_succ])
      | (refine mv_free _ (Or.inr ⟨by rfl, rfl⟩) (⟨k0, k1, k2⟩) ?_
         simp only [Act.put, List.setIfInBounds_toArray, List.set_cons_zero, List.set_cons_succ])
  refine mv_step (fun K hK => ?_)
  go_simp
  refine (T0.out _).mono ?_
  rintro e w1 ⟨rfl, hb1⟩
  have hb1 := ((Below.refl (w.heap.size + 1) V).drew).trans (hb1.mono (by have := hz.out; show _ ≤ V.heap.size; omega))
  obtain ⟨k0, k1, k2⟩ := hcs.out _ hb1
  go_wp2_with fail
  refine hK.out _ _ _ (fun u hu => hu) (⟨k0, k1, k2⟩) ?_
  clear hK K
  iterate 1
    first
      | (refine mv_free ?_ (Or.inl ⟨by rfl, ?_⟩) (⟨k0, k1, k2⟩) ?_
         rotate_left 1
         · intro u
           go_simp
           try with_reducible rfl
         simp only [Act.put, List.setIfInBounds_toArray, List.set_cons_zero, List.set_cons_succ])
      | (refine mv_free _ (Or.inr ⟨by rfl, rfl⟩) (⟨k0, k1, k2⟩) ?_
         simp only [Act.put, List.setIfInBounds_toArray, List.set_cons_zero, List.set_cons_succ])
  refine mv_step (fun K hK => ?_)
  go_simp
  have hq := Held.new w1 [.bool (plB c h), .int .i64 0, .bool (decide (60000 < h)), .int .i64 2] 124
  have hb8 := Below.alloc hb1 (by have := hb1.size; have := hz.out; show _ ≤ w1.heap.size; omega) (.cells #[.bool (plB c h), .int .i64 0, .bool (decide (60000 < h)), .int .i64 2] 124)
  clear hb1
  go_wp2_with fail
  obtain ⟨k0, k1, k2⟩ := hcs.out _ hb8
  refine hK.out _ _ _ (fun u hu => hu) (⟨k0, k1, k2⟩) ?_
  clear hK K
  refine mv_step (fun K hK => ?_)
  go_simp
  refine (FI.out _ _ hq).mono ?_
  rintro e w9 ⟨rfl, hb9⟩
  have hb9 := hb8.trans (hb9.mono (by have := hb8.size; have := hz.out; omega))
  clear hb8
  obtain ⟨k0, k1, k2⟩ := hcs.out _ hb9
  go_wp2_with fail
  refine hK.out _ _ _ (fun u hu => hu) (⟨k0, k1, k2⟩) ?_
  clear hK K
  iterate 1
    first
      | (refine mv_free ?_ (Or.inl ⟨by rfl, ?_⟩) (⟨k0, k1, k2⟩) ?_
         rotate_left 1
         · intro u
           go_simp
           try with_reducible rfl
         simp only [Act.put, List.setIfInBounds_toArray, List.set_cons_zero, List.set_cons_succ])
      | (refine mv_free _ (Or.inr ⟨by rfl, rfl⟩) (⟨k0, k1, k2⟩) ?_
         simp only [Act.put, List.setIfInBounds_toArray, List.set_cons_zero, List.set_cons_succ])
  refine mv_done ?_
  go_wp2
  go_ret
  exact ⟨rfl, hb0.out.trans (hb9.mono (by omega))⟩
set_option maxRecDepth 100000 in
set_option maxHeartbeats 8000000 in
theorem pask9 (p c h r : Int) (hp : p < 0 ∨ 5 < p) (w : World) : Calls Try.prog 45 #[.int .i64 p, .agg #[.int .i64 c, .int .i64 h, .int .i64 r]] w fun e w' => e = .returned (.int .i64 p) ∧ Below w.heap.size w w' := by
  rcases hp with hp | hp
  all_goals
    go_enter Try.func45, Try.ntmps45
    go_wp2
    go_ret
    exact ⟨rfl, (by repeat (first | exact Below.refl _ _ | assumption | apply Below.drew | apply below_drewN | (refine Below.alloc ?_ (by first | exact Nat.le_refl _ | omega | (simp <;> omega)) _) | (refine Below.setCell ?_ (by first | exact Nat.le_refl _ | omega | (simp <;> omega)) _)))⟩
theorem pasked (p c h r : Int) (w : World) : Calls Try.prog 45 #[.int .i64 p, .agg #[.int .i64 c, .int .i64 h, .int .i64 r]] w fun e w' => e = .returned (.int .i64 (phA p c h r)) ∧ Below w.heap.size w w' := by
  by_cases hp : p < 0 ∨ 5 < p
  · rw [show phA p c h r = p by unfold phA; rw [if_neg (by omega), if_neg (by omega), if_neg (by omega), if_neg (by omega), if_neg (by omega), if_neg (by omega)]]
    exact pask9 p c h r hp w
  · rcases (show p = 0 ∨ p = 1 ∨ p = 2 ∨ p = 3 ∨ p = 4 ∨ p = 5 by omega) with rfl | rfl | rfl | rfl | rfl | rfl
    · have := pask0 c h r w; simpa [phA, plB, pvB, pdB, puB] using this
    · have := pask1 c h r w; simpa [phA, plB, pvB, pdB, puB] using this
    · have := pask2 c h r w; simpa [phA, plB, pvB, pdB, puB] using this
    · have := pask3 c h r w; simpa [phA, plB, pvB, pdB, puB] using this
    · have := pask4 c h r w; simpa [phA, plB, pvB, pdB, puB] using this
    · have := pask5 c h r w; simpa [phA, plB, pvB, pdB, puB] using this
set_option maxRecDepth 100000 in
set_option maxHeartbeats 8000000 in
theorem rasked (p c h r : Int) (w : World) : Calls Try.prog 46 #[.int .i64 p, .int .i64 c, .int .i64 h, .int .i64 r] w fun e w' => e = .returned (.int .i64 (phA p c h r)) ∧ w = w' := by
  by_cases hp : p < 0 ∨ 5 < p
  · have e : phA p c h r = p := by unfold phA; rw [if_neg (by omega), if_neg (by omega), if_neg (by omega), if_neg (by omega), if_neg (by omega), if_neg (by omega)]
    rw [e]
    clear e
    rcases (show -250 < r ∨ r ≤ -250 by omega) with hr | hr
    all_goals
      rcases hp with hp | hp
      all_goals
        go_enter Try.func46, Try.ntmps46
        go_wp2
        all_goals
          go_ret
          exact ⟨rfl, rfl⟩
  · rcases (show -250 < r ∨ r ≤ -250 by omega) with hr | hr
    all_goals
      rcases (show p = 0 ∨ p = 1 ∨ p = 2 ∨ p = 3 ∨ p = 4 ∨ p = 5 by omega) with rfl | rfl | rfl | rfl | rfl | rfl
      all_goals
        clear hp
        go_enter Try.func46, Try.ntmps46
        go_wp2
        all_goals
          go_ret
          refine ⟨ret_int ?_, rfl⟩
          (try simp only [Bool.not_eq_true', Bool.not_eq_false', decide_eq_true_eq, decide_eq_false_iff_not, Int.not_le, Int.not_lt] at *)
          simp only [phA]
          simp only [Int.reduceEq, if_true, if_false, ite_true, ite_false, reduceIte]
          (repeat' split) <;> omega
set_option maxRecDepth 100000 in
set_option maxHeartbeats 8000000 in
theorem psoon (a b : Int) (w : World) : Calls Try.prog 47 #[.int .i64 a, .int .i64 b] w fun e w' => e = .returned (.bool (phQ a b)) ∧ w = w' := by
  have PA := Lib.hid (fun n u => pisph n u)
  go_enter Try.func47, Try.ntmps47
  go_wp2_with (go_at_call 84; refine (PA.out _ _).mono ?_; rintro e w1 ⟨rfl, rfl⟩)
  all_goals
    go_ret
    refine ⟨ret_bool ?_, rfl⟩
    (try simp only [Bool.not_eq_true', Bool.not_eq_false', decide_eq_true_eq, decide_eq_false_iff_not, beq_iff_eq, beq_eq_false_iff_ne, bne_iff_ne, bne_eq_false_iff_eq, Bool.and_eq_true, Bool.or_eq_true, ne_eq] at *)
    unfold phQ
    first | (symm; apply decide_eq_true; omega) | (symm; apply decide_eq_false; omega) | (rw [Bool.eq_iff_iff]; simp only [decide_eq_true_eq, Bool.or_eq_true, Bool.and_eq_true, beq_iff_eq]; omega)
set_option maxRecDepth 100000 in
set_option maxHeartbeats 8000000 in
theorem rsoon (a b : Int) (w : World) : Calls Try.prog 48 #[.int .i64 a, .int .i64 b] w fun e w' => e = .returned (.bool (phQ a b)) ∧ w = w' := by
  go_enter Try.func48, Try.ntmps48
  go_wp2
  all_goals
    go_ret
    refine ⟨ret_bool ?_, rfl⟩
    (try simp only [Bool.not_eq_true', Bool.not_eq_false', decide_eq_true_eq, decide_eq_false_iff_not, beq_iff_eq, beq_eq_false_iff_ne, bne_iff_ne, bne_eq_false_iff_eq, Bool.and_eq_true, Bool.or_eq_true, ne_eq] at *)
    unfold phQ
    first | (symm; apply decide_eq_true; omega) | (symm; apply decide_eq_false; omega) | (rw [Bool.eq_iff_iff]; simp only [decide_eq_true_eq, Bool.or_eq_true, Bool.and_eq_true, beq_iff_eq]; omega)
end Go.Proofs.Ytlhejkaedgelnaa
