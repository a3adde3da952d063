/- Package matrix: numbers, Dot, what is built of a function. -/
import Derived.Test.YtaijkngdelolgaaSatU
import Derived.Test.YtaijkngdelolgaaWide3
import Derived.Test.YtaijkngdelolgaaReg
import Derived.Test.YtaijkngdelolgaaHb
import Derived.Deep.Cut
namespace Go.Proofs.Ytaijkngdelolgaa
open Go.ChangeShapes Go.WideShapes Go.ChangeAt Go.RowKit
set_option linter.unusedVariables false
set_option linter.unusedSimpArgs false

theorem wq_posM {a b c : Int} (hc : 0 < c) : wq a b c = a * b / c := by
  unfold wq wN mag
  rw [if_neg (by omega), if_neg (by omega)]
/-- A product of two numbers. -/
def prd (x y : Int) : Int := fitV (clp x) (clp y) 1048576
def clv (p : Int) : Int := if p / 1048576 < -1099511627775 then -1099511627775 else if 1099511627775 < p / 1048576 then 1099511627775 else p / 1048576
theorem prd_is (x y : Int) : prd x y = clv (clp x * clp y) := by
  unfold prd fitV clv
  rw [wq_posM (by omega), if_neg (by omega)]
theorem prd_comm (x y : Int) : prd x y = prd y x := by rw [prd_is, prd_is, Int.mul_comm]
theorem prd_bd (x y : Int) : -1099511627775 ≤ prd x y ∧ prd x y ≤ 1099511627775 := by rw [prd_is]; unfold clv; omega
theorem prd_one (x : Int) : prd x 1048576 = clp x := by
  rw [prd_is, show clp 1048576 = 1048576 by decide]
  have := clp_bd x
  unfold clv
  rw [Int.mul_ediv_cancel _ (by omega)]
  omega
theorem prd_zero (x : Int) : prd x 0 = 0 := by rw [prd_is, show clp 0 = 0 by decide, Int.mul_zero]; decide
def dtI (A B : Nat → Int) : Int := clp (prd (A 0) (B 0) + prd (A 1) (B 1) + prd (A 2) (B 2))
def sm3 (A B : Nat → Int) : Nat → Int
  | 0 => 0
  | k + 1 => sm3 A B k + prd (A k) (B k)
theorem sm3_bd (A B : Nat → Int) : ∀ k : Nat, -1099511627775 * (k : Int) ≤ sm3 A B k ∧ sm3 A B k ≤ 1099511627775 * (k : Int)
  | 0 => by simp [sm3]
  | k + 1 => by have := sm3_bd A B k; have := prd_bd (A k) (B k); unfold sm3; push_cast; omega
theorem sm3_dt (A B : Nat → Int) : clp (sm3 A B 3) = dtI A B := by simp [sm3, dtI]
set_option maxRecDepth 100000 in
set_option maxHeartbeats 8000000 in
theorem mclip (n : Int) (w : World) : Calls Try.prog 69 #[.int .i64 n] w fun e w' => e = .returned (.int .i64 (clp n)) ∧ w = w' := by
  go_enter Try.func69, Try.ntmps69
  go_wp2_with fail
  refine (clip_any _ _).mono ?_
  rintro e w' ⟨rfl, rfl⟩
  go_wp2
  go_ret
  exact ⟨rfl, rfl⟩
set_option maxRecDepth 100000 in
set_option maxHeartbeats 8000000 in
theorem mproduct (x y : Int) (w : World) : Calls Try.prog 57 #[.int .i64 x, .int .i64 y] w fun e w' => e = .returned (.int .i64 (prd x y)) ∧ Below w.heap.size w w' := by
  have b1 := clp_bd x
  have b2 := clp_bd y
  have C1 := Lib.hid (fun u => mclip x u)
  have C2 := Lib.hid (fun u => mclip y u)
  have FT := fun u => fit_any (clp x) (clp y) 1048576 u (by omega) (by omega) (by omega) (by omega) (by omega) (by omega)
  rw [show fitV (clp x) (clp y) 1048576 = prd x y from rfl] at FT
  generalize clp x = X at *
  generalize clp y = Y at *
  generalize prd x y = P at *
  replace FT := Lib.hid FT
  go_enter Try.func57, Try.ntmps57
  go_wp2_with fail
  refine (C1.out _).mono ?_
  rintro e w' ⟨rfl, rfl⟩
  go_wp2_with fail
  refine (C2.out _).mono ?_
  rintro e w' ⟨rfl, rfl⟩
  go_wp2_with fail
  refine (FT.out _).mono ?_
  rintro e w1 ⟨rfl, hb1⟩
  go_wp2
  go_ret
  exact ⟨rfl, hb1⟩
theorem vv_box (w : World) (A B : Nat → Int) : ∃ V, V = (w.alloc (.cells #[.int .i64 (A 0), .int .i64 (A 1), .int .i64 (A 2)] 80)).alloc (.cells #[.int .i64 (B 0), .int .i64 (B 1), .int .i64 (B 2)] 80) ∧ Below w.heap.size w V ∧ Held w.heap.size [.int .i64 (A 0), .int .i64 (A 1), .int .i64 (A 2)] V ∧ Held (w.heap.size + 1) [.int .i64 (B 0), .int .i64 (B 1), .int .i64 (B 2)] V ∧ V.heap.size = w.heap.size + 2 := by
  refine ⟨_, rfl, (by repeat (first | exact Below.refl _ _ | assumption | apply Below.drew | apply below_drewN | (refine Below.alloc ?_ (by first | exact Nat.le_refl _ | omega | (simp <;> omega)) _) | (refine Below.setCell ?_ (by first | exact Nat.le_refl _ | omega | (simp <;> omega)) _))), (Held.new w [.int .i64 (A 0), .int .i64 (A 1), .int .i64 (A 2)] _).alloc _, ?_, by simp⟩
  have := Held.new (w.alloc (.cells #[.int .i64 (A 0), .int .i64 (A 1), .int .i64 (A 2)] 80)) [.int .i64 (B 0), .int .i64 (B 1), .int .i64 (B 2)] 80
  simpa using this
theorem vl_at {b : Nat} {A : Nat → Int} {u : World} (h : Held b [.int .i64 (A 0), .int .i64 (A 1), .int .i64 (A 2)] u) {k : Nat} (hk : k < 3) : u.cell? ⟨b, k, none⟩ = some (.int .i64 (A k)) := by
  rcases (show k = 0 ∨ k = 1 ∨ k = 2 by omega) with rfl | rfl | rfl <;> exact h.c _ _ rfl
theorem ml_at {b : Nat} {A : Nat → Int} {u : World} (h : Held b [.int .i64 (A 0), .int .i64 (A 1), .int .i64 (A 2), .int .i64 (A 3), .int .i64 (A 4), .int .i64 (A 5), .int .i64 (A 6), .int .i64 (A 7), .int .i64 (A 8)] u) {k : Nat} (hk : k < 9) : u.cell? ⟨b, k, none⟩ = some (.int .i64 (A k)) := by
  rcases (show k = 0 ∨ k = 1 ∨ k = 2 ∨ k = 3 ∨ k = 4 ∨ k = 5 ∨ k = 6 ∨ k = 7 ∨ k = 8 by omega) with rfl | rfl | rfl | rfl | rfl | rfl | rfl | rfl | rfl <;> exact h.c _ _ rfl
set_option maxRecDepth 100000 in
set_option maxHeartbeats 8000000 in
theorem mdot (A B : Nat → Int) (w : World) : Calls Try.prog 60 #[.agg #[.int .i64 (A 0), .int .i64 (A 1), .int .i64 (A 2)], .agg #[.int .i64 (B 0), .int .i64 (B 1), .int .i64 (B 2)]] w fun e w' => e = .returned (.int .i64 (dtI A B)) ∧ Below w.heap.size w w' := by
  rw [← sm3_dt]
  obtain ⟨V, eV, hb0, hA, hB, hz⟩ := vv_box w A B
  have S3 := sm3_bd A B 3
  have CC := Lib.hid (fun u => mclip (sm3 A B 3) u)
  have HA := Lib.hid (fun u (h : Below (w.heap.size + 2) V u) k (hk : k < 3) => vl_at (hA.below h (by omega)) hk)
  have HB := Lib.hid (fun u (h : Below (w.heap.size + 2) V u) k (hk : k < 3) => vl_at (hB.below h (by omega)) hk)
  replace eV := Lib.hid eV
  replace hz := Lib.hid hz
  replace hb0 := Lib.hid hb0
  clear hA hB
  go_enter Try.func60, Try.ntmps60
  go_upto_region 1 with (fail)
  rw [← eV.out]
  go_wp2_with fail
  go_loopw [5, 7] (fun s i u => ∃ k : Nat, k ≤ 3 ∧ i = .int .i64 (k : Int) ∧ s = .int .i64 (sm3 A B k) ∧ Below (w.heap.size + 2) V u) (fun _ i _ => 3 - (intOf i).toNat)
  case atStart => exact ⟨0, by omega, rfl, rfl, Below.refl _ _⟩
  case round =>
    obtain ⟨k, hk, rfl, rfl, hb⟩ := hrel
    have sb := sm3_bd A B k
    by_cases hlt : k < 3
    · have k0 := HA.out _ hb k hlt
      have k1 := HB.out _ hb k hlt
      have pb := prd_bd (A k) (B k)
      have MP := fun u => mproduct (A k) (B k) u
      have e1 : sm3 A B (k + 1) = sm3 A B k + prd (A k) (B k) := rfl
      generalize prd (A k) (B k) = P at *
      generalize sm3 A B k = S at *
      generalize A k = X at *
      generalize B k = Y at *
      have z1 : IntKind.i64.wrap (S + P) = S + P := by rw [IntKind.wrap_i64]; omega
      replace MP := Lib.hid MP
      replace e1 := Lib.hid e1
      have hk3 : (k : Int) < 3 := by omega
      go_wp2_with fail
      refine region_moves (fun u => u.cell? ⟨w.heap.size, k, none⟩ = some (.int .i64 X) ∧ u.cell? ⟨w.heap.size + 1, k, none⟩ = some (.int .i64 Y)) [(7, [(3, 7), (6, 7), (2, 3), (5, 6), (1, 2), (4, 5)])] [(.free, 0), (.free, 1), (.free, 2), (.take, 3), (.free, 4), (.free, 5), (.take, 6), (.late, 7), (.free, 8), (.free, 9)] _ (by kernel_rfl) (by kernel_rfl) (by kernel_rfl) (by kernel_rfl) (by decide) rfl (fun _ _ _ _ _ h => h) ?_
      simp only [List.filterMap_cons, List.filterMap_nil, List.getElem?_toArray, List.getElem?_cons_zero, List.getElem?_cons_succ, Option.map_some]
      iterate 3
        first
          | (refine mv_free ?_ (Or.inl ⟨by rfl, ?_⟩) (⟨k0, k1⟩) ?_
             rotate_left 1
             · intro u
               go_simp
               try simp only [d1]
               try simp only [d2]
               try simp only [d3]
               try with_reducible rfl
             simp only [Act.put, List.setIfInBounds_toArray, List.set_cons_zero, List.set_cons_succ])
          | (refine mv_free _ (Or.inr ⟨by rfl, rfl⟩) (⟨k0, k1⟩) ?_
             simp only [Act.put, List.setIfInBounds_toArray, List.set_cons_zero, List.set_cons_succ])
      iterate 1
        first
          | (refine mv_take ?_ (Or.inl ⟨by rfl, ?_⟩) (⟨k0, k1⟩) ?_
             rotate_left 1
             · intro u hu
               (try dsimp only at hu)
               go_simp
               try with_reducible rfl
             simp only [Act.put, List.setIfInBounds_toArray, List.set_cons_zero, List.set_cons_succ])
          | (refine mv_take _ (Or.inr ⟨by rfl, rfl⟩) (⟨k0, k1⟩) ?_
             simp only [Act.put, List.setIfInBounds_toArray, List.set_cons_zero, List.set_cons_succ])
      iterate 2
        first
          | (refine mv_free ?_ (Or.inl ⟨by rfl, ?_⟩) (⟨k0, k1⟩) ?_
             rotate_left 1
             · intro u
               go_simp
               try simp only [d1]
               try simp only [d2]
               try simp only [d3]
               try with_reducible rfl
             simp only [Act.put, List.setIfInBounds_toArray, List.set_cons_zero, List.set_cons_succ])
          | (refine mv_free _ (Or.inr ⟨by rfl, rfl⟩) (⟨k0, k1⟩) ?_
             simp only [Act.put, List.setIfInBounds_toArray, List.set_cons_zero, List.set_cons_succ])
      iterate 1
        first
          | (refine mv_take ?_ (Or.inl ⟨by rfl, ?_⟩) (⟨k0, k1⟩) ?_
             rotate_left 1
             · intro u hu
               (try dsimp only at hu)
               go_simp
               try with_reducible rfl
             simp only [Act.put, List.setIfInBounds_toArray, List.set_cons_zero, List.set_cons_succ])
          | (refine mv_take _ (Or.inr ⟨by rfl, rfl⟩) (⟨k0, k1⟩) ?_
             simp only [Act.put, List.setIfInBounds_toArray, List.set_cons_zero, List.set_cons_succ])
      refine mv_late (fun K hK => ?_)
      go_simp
      refine (MP.out _).mono ?_
      rintro e w1 ⟨rfl, hb1⟩
      have hb2 := hb.drew.trans (hb1.mono (by have := hb.size; have := hz.out; show _ ≤ wr.heap.size; omega))
      clear k0 k1 hb1 hb
      go_wp2_with fail
      refine hK.out (fun _ => True) _ _ ?_
      clear hK K
      iterate 2
        first
          | (refine mv_free ?_ (Or.inl ⟨by rfl, ?_⟩) (trivial) ?_
             rotate_left 1
             · intro u
               go_simp
               try simp only [d1]
               try simp only [d2]
               try simp only [d3]
               try with_reducible rfl
             simp only [Act.put, List.setIfInBounds_toArray, List.set_cons_zero, List.set_cons_succ])
          | (refine mv_free _ (Or.inr ⟨by rfl, rfl⟩) (trivial) ?_
             simp only [Act.put, List.setIfInBounds_toArray, List.set_cons_zero, List.set_cons_succ])
      refine mv_done ?_
      go_wp2
      go_roundw
      case rel => exact ⟨k + 1, by omega, by go_num, by rw [e1.out], hb2⟩
      case measure => simp [intOf]; omega
    · obtain rfl : k = 3 := by omega
      go_wp2_with fail
      refine (CC.out _).mono ?_
      rintro e w' ⟨rfl, rfl⟩
      go_wp2
      go_ret
      exact ⟨rfl, hb0.out.trans (hb.mono (by omega))⟩
end Go.Proofs.Ytaijkngdelolgaa
