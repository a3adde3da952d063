/- What == of flags says; the law DiscTakes; walked. -/
import Derived.Test.YtaijkngdelolgaaDisc4
import Derived.DeepKeys
namespace Go.Proofs.Ytaijkngdelolgaa
open Go.ChangeShapes Go.WideShapes Go.ChangeAt Go.RowKit
set_option linter.unusedVariables false
set_option linter.unusedSimpArgs false
theorem info_bool : ∃ i, Try.prog.info? 4 = some i := info_of_underlying Try.underlying4
theorem cel_bool : Try.prog.cellsOf 4 = 1 := by kernel_rfl
theorem part_bool (xs : Array Value) (off : Nat) (v : Value) (w : World) (h : xs[off]? = some v) : (part 4 xs off).run Try.prog w = .ok v w := run_part_plain w (by kernel_rfl) h
theorem meq_list (f g : Nat → Bool) (d : Nat) (w : World) : ∀ is : List Nat, (∀ i, i ∈ is → i < 19) → (Op.eqItems (d + 1) 4 1 (mkC f) (mkC g) is).run Try.prog w = .ok (is.all (fun i => f i == g i)) w
  | [], _ => by simp [Op.eqItems]
  | i :: is, h => by
    have hi : i < 19 := h i (by simp)
    have pf := part_bool (mkC f) i (.bool (f i)) w (mkC_at f i hi)
    have pg := part_bool (mkC g) i (.bool (g i)) w (mkC_at g i hi)
    have eq := run_equalIn_bool w d 4 (f i) (g i) Try.underlying4
    have ih := meq_list f g d w is (fun j hj => h j (by simp [hj]))
    cases hb : (f i == g i)
    · rw [hb] at eq
      simp [Op.eqItems, pf, pg, eq, hb]
    · rw [hb] at eq
      simp [Op.eqItems, pf, pg, eq, hb, ih]
def meB (f g : Nat → Bool) : Bool := (List.range 19).all (fun i => f i == g i)
theorem meB_iff (f g : Nat → Bool) : meB f g = true ↔ ∀ i, i < 19 → f i = g i := by
  unfold meB
  simp
theorem meB_refl (f : Nat → Bool) : meB f f = true := (meB_iff f f).2 (fun _ _ => rfl)
theorem meq19 (f g : Nat → Bool) (w : World) : (Op.equalIn 10000 23 (.agg (mkC f)) (.agg (mkC g))).run Try.prog w = .ok (meB f g) w := by
  obtain ⟨i, hi⟩ := info_bool
  rw [show (10000 : Nat) = 9999 + 1 from rfl, run_equalIn_array w 9999 _ _ Try.underlying23 hi, cel_bool, show (9999 : Nat) = 9998 + 1 from rfl]
  exact meq_list f g 9998 w _ (fun i hi => by simpa using hi)
theorem meqZ (w : World) : (Op.equalIn 10000 23 (.agg (mkC fun _ => false)) (.agg #[.bool false, .bool false, .bool false, .bool false, .bool false, .bool false, .bool false, .bool false, .bool false, .bool false, .bool false, .bool false, .bool false, .bool false, .bool false, .bool false, .bool false, .bool false, .bool false])).run Try.prog w = .ok true w := by
  have h := meq19 (fun _ => false) (fun _ => false) w
  rw [meB_refl] at h
  exact h
theorem mbox (w : World) (g : Nat → Bool) : ∃ V, V = (w.alloc (.cells #[.bool false, .bool false, .bool false, .bool false, .bool false, .bool false, .bool false, .bool false, .bool false, .bool false, .bool false, .bool false, .bool false, .bool false, .bool false, .bool false, .bool false, .bool false, .bool false] 23)).setRow w.heap.size (mkC g) ∧ Below w.heap.size w V ∧ V.heap[w.heap.size]? = some (.cells (mkC g) 23 (0, 0)) := by
  have e : (w.alloc (.cells #[.bool false, .bool false, .bool false, .bool false, .bool false, .bool false, .bool false, .bool false, .bool false, .bool false, .bool false, .bool false, .bool false, .bool false, .bool false, .bool false, .bool false, .bool false, .bool false] 23)).setRow w.heap.size (mkC g) = w.alloc (.cells (mkC g) 23) := World.setRow_alloc_new w #[.bool false, .bool false, .bool false, .bool false, .bool false, .bool false, .bool false, .bool false, .bool false, .bool false, .bool false, .bool false, .bool false, .bool false, .bool false, .bool false, .bool false, .bool false, .bool false] (mkC g) 23
  exact ⟨_, rfl, by rw [e]; exact (by repeat (first | exact Below.refl _ _ | assumption | apply Below.drew | apply below_drewN | (refine Below.alloc ?_ (by first | exact Nat.le_refl _ | omega | (simp <;> omega)) _) | (refine Below.setCell ?_ (by first | exact Nat.le_refl _ | omega | (simp <;> omega)) _))), by rw [e]; exact alloc_get _ _⟩
set_option maxRecDepth 100000 in
set_option maxHeartbeats 8000000 in
theorem ltk_0000 (n x : Int) (w : World) (h0 : 0 ≤ x) (h1 : x ≤ 4294967295) (hA : x / 256 % 4 = 0) (hB : x % 256 = n) (hO : odB x = true) (hR : 0 ≤ n ∧ n ≤ 255) : Calls Try.prog 4 #[.int .i64 n, .int .u32 x] w fun e w' => e = .returned (.bool true) ∧ Below w.heap.size w w' := by
  have TK := Lib.hid (fun u => dtake_ok n x u h0 h1 hR hO hB hA)
  have LV := Lib.hid (fun u => lives29 u)
  have ON := Lib.hid (fun u => rones_any x h0 (by omega) u)
  have c1 : IntKind.i64.wrap x = x := by rw [IntKind.wrap_i64]; omega
  have q1 : x.tdiv 256 = x / 256 := Int.tdiv_eq_ediv_of_nonneg h0
  have q2 : IntKind.i64.wrap (x / 256) = x / 256 := by rw [IntKind.wrap_i64]; omega
  have q3 : (x / 256).tmod 4 = x / 256 % 4 := Int.tmod_eq_emod_of_nonneg (by omega)
  have q4 : x.tmod 256 = x % 256 := Int.tmod_eq_emod_of_nonneg h0
  have oq : (onI x 40).tmod 2 = onI x 40 % 2 := Int.tmod_eq_emod_of_nonneg (onI_bd x 40).1
  rw [show onI x 40 % 2 = 1 from of_decide_eq_true hO] at oq
  rw [hA] at q3
  rw [hB] at q4
  have s1 : ¬ n < 0 := by omega
  have s2 : ¬ 255 < n := by omega
  have q7 : x.tdiv 1024 = x / 1024 := Int.tdiv_eq_ediv_of_nonneg h0
  have q8 : IntKind.i64.wrap (x / 1024) = x / 2 ^ (10 + 0) := by rw [IntKind.wrap_i64]; show _ = x / 1024; omega
  have YF := Lib.hid (fun (k : Nat) => show 0 ≤ x / 2 ^ (10 + k) ∧ x / 2 ^ (10 + k) ≤ 4294967295 from ⟨Int.ediv_nonneg h0 (Int.le_of_lt (Int.pow_pos (by decide))), Int.le_trans (Int.ediv_le_self _ h0) h1⟩)
  have YN := Lib.hid (fun (k : Nat) => show x / 2 ^ (10 + (k + 1)) = x / 2 ^ (10 + k) / 2 from by rw [show 10 + (k + 1) = (10 + k) + 1 from rfl, Int.pow_succ, Int.ediv_ediv_of_nonneg (Int.le_of_lt (Int.pow_pos (by decide)))])
  have x29 := Lib.hid (show x / 2 ^ (10 + 19) = x / 536870912 from rfl)
  clear hA hB hO hR
  go_enter Try.func4, Try.ntmps4
  go_wp2_with fail
  refine (TK.out _).mono ?_
  rintro e w1 ⟨rfl, hb1⟩
  obtain ⟨V, eV, hb2, hgV⟩ := mbox w1 (tkM x)
  go_upto_region 2 with (refine wpList_store_row rfl 23 _ _ rfl w1.heap.size (mkC (tkM x)) rfl rfl 23 _ (alloc_get _ _) (by kernel_rfl) rfl (by kernel_rfl) ?_)
  rw [← eV]
  clear eV
  have hq := Lib.hid (show w.heap.size ≤ w1.heap.size from hb1.size)
  replace hb2 := Lib.hid (hb1.trans (hb2.mono hq.out))
  generalize w1.heap.size = q at *
  clear hb1
  go_wp2_with fail
  refine (ON.out _).mono ?_
  rintro e w3 ⟨rfl, rfl⟩
  go_wp2_with fail
  go_loopw [8, 10] (fun y i v => ∃ k : Nat, k ≤ 19 ∧ y = .int .i64 (x / 2 ^ (10 + k)) ∧ i = .int .i64 (k : Int) ∧ v = V) (fun _ i _ => 19 - (intOf i).toNat)
  case atStart => exact ⟨0, by omega, by first | rfl | (rw [q8]), rfl, rfl⟩
  case round =>
    obtain ⟨k, hk, rfl, rfl, rfl⟩ := hrel
    by_cases hlt : k < 19
    · have c0 := (cell_of_row _ q k _ _ _ hgV).trans (mkC_at (tkM x) k hlt)
      have YB := YF.out k
      have yn := YN.out k
      have i0 : 0 ≤ (k : Int) := by omega
      have i1 : (k : Int) < 19 := by omega
      have i2 : IntKind.i64.wrap ((k : Int) + 1) = (k : Int) + 1 := by rw [IntKind.wrap_i64]; omega
      have tk : tkM x k = decide (x / 2 ^ (10 + k) % 2 = 1) := rfl
      rw [tk] at c0
      clear tk
      generalize x / 2 ^ (10 + k) = y at *
      have y1 : y.tmod 2 = y % 2 := Int.tmod_eq_emod_of_nonneg YB.1
      have y2 : y.tdiv 2 = y / 2 := Int.tdiv_eq_ediv_of_nonneg YB.1
      have y3 : IntKind.i64.wrap (y / 2) = y / 2 := by rw [IntKind.wrap_i64]; omega
      rw [← yn] at y2 y3
      replace yn := Lib.hid yn
      clear YB
      skip
      rcases (show y % 2 = 0 ∨ y % 2 = 1 from by omega) with p | p
      all_goals
        rw [p] at y1 c0
        clear p
        go_wp2
        go_roundw
        case rel => exact ⟨k + 1, by omega, by first | rfl | trivial, by first | rfl | go_num, by first | rfl | trivial⟩
        case measure => simp [intOf] <;> omega
    · obtain rfl : k = 19 := by omega
      rw [x29.out]
      clear YF YN x29 hgV q8 q7
      have y0 : 0 ≤ x / 536870912 := Int.ediv_nonneg h0 (by decide)
      generalize x / 536870912 = y at *
      have y1 : y.tmod 4 = y % 4 := Int.tmod_eq_emod_of_nonneg y0
      go_wp2_with fail
      refine (LV.out _).mono ?_
      rintro e w9 ⟨rfl, hb9⟩
      go_wp2
      go_ret
      exact ⟨rfl, hb2.out.trans (hb9.mono (by have := hb2.out.size; omega))⟩
set_option maxRecDepth 100000 in
set_option maxHeartbeats 8000000 in
theorem ltk_1000 (n x : Int) (w : World) (h0 : 0 ≤ x) (h1 : x ≤ 4294967295) (hA : ¬ x / 256 % 4 = 0) (hB : x % 256 = n) (hO : odB x = true) (hR : 0 ≤ n ∧ n ≤ 255) : Calls Try.prog 4 #[.int .i64 n, .int .u32 x] w fun e w' => e = .returned (.bool true) ∧ Below w.heap.size w w' := by
  have TK := Lib.hid (fun u => dtake_form n x u h0 h1 hR hO hB hA)
  have LV := Lib.hid (fun u => lives29 u)
  have ON := Lib.hid (fun u => rones_any x h0 (by omega) u)
  have c1 : IntKind.i64.wrap x = x := by rw [IntKind.wrap_i64]; omega
  have q1 : x.tdiv 256 = x / 256 := Int.tdiv_eq_ediv_of_nonneg h0
  have q2 : IntKind.i64.wrap (x / 256) = x / 256 := by rw [IntKind.wrap_i64]; omega
  have q3 : (x / 256).tmod 4 = x / 256 % 4 := Int.tmod_eq_emod_of_nonneg (by omega)
  have q4 : x.tmod 256 = x % 256 := Int.tmod_eq_emod_of_nonneg h0
  have oq : (onI x 40).tmod 2 = onI x 40 % 2 := Int.tmod_eq_emod_of_nonneg (onI_bd x 40).1
  rw [show onI x 40 % 2 = 1 from of_decide_eq_true hO] at oq
  have hA2 : ((x / 256 % 4 : Int) != 0) = true := by simp [hA]
  rw [hB] at q4
  have s1 : ¬ n < 0 := by omega
  have s2 : ¬ 255 < n := by omega
  have MZ := meqZ
  generalize x / 256 % 4 = aa at *
  clear hA hB hO hR
  clear h0 h1
  go_enter Try.func4, Try.ntmps4
  go_wp2_with fail
  refine (TK.out _).mono ?_
  rintro e w1 ⟨rfl, hb1⟩
  obtain ⟨V, eV, hb2, hgV⟩ := mbox w1 (fun _ => false)
  go_upto_region 2 with (refine wpList_store_row rfl 23 _ _ rfl w1.heap.size (mkC (fun _ => false)) rfl rfl 23 _ (alloc_get _ _) (by kernel_rfl) rfl (by kernel_rfl) ?_)
  rw [← eV]
  clear eV
  have hq := Lib.hid (show w.heap.size ≤ w1.heap.size from hb1.size)
  replace hb2 := Lib.hid (hb1.trans (hb2.mono hq.out))
  generalize w1.heap.size = q at *
  clear hb1
  go_wp2_with fail
  refine (ON.out _).mono ?_
  rintro e w3 ⟨rfl, rfl⟩
  go_wp2_with (refine wpList_load_row rfl 23 _ rfl q rfl 23 _ (0, 0) _ hgV Try.underlying23 rfl (by kernel_rfl) ?_)
  refine (LV.out _).mono ?_
  rintro e w9 ⟨rfl, hb9⟩
  go_wp2
  go_ret
  exact ⟨rfl, hb2.out.trans (hb9.mono (by have := hb2.out.size; omega))⟩
set_option maxRecDepth 100000 in
set_option maxHeartbeats 8000000 in
theorem ltk_0100 (n x : Int) (w : World) (h0 : 0 ≤ x) (h1 : x ≤ 4294967295) (hA : x / 256 % 4 = 0) (hB : ¬ x % 256 = n) (hO : odB x = true) (hR : 0 ≤ n ∧ n ≤ 255) : Calls Try.prog 4 #[.int .i64 n, .int .u32 x] w fun e w' => e = .returned (.bool true) ∧ Below w.heap.size w w' := by
  have TK := Lib.hid (fun u => dtake_none n x u h0 h1 hR hO hB)
  have LV := Lib.hid (fun u => lives29 u)
  have ON := Lib.hid (fun u => rones_any x h0 (by omega) u)
  have c1 : IntKind.i64.wrap x = x := by rw [IntKind.wrap_i64]; omega
  have q1 : x.tdiv 256 = x / 256 := Int.tdiv_eq_ediv_of_nonneg h0
  have q2 : IntKind.i64.wrap (x / 256) = x / 256 := by rw [IntKind.wrap_i64]; omega
  have q3 : (x / 256).tmod 4 = x / 256 % 4 := Int.tmod_eq_emod_of_nonneg (by omega)
  have q4 : x.tmod 256 = x % 256 := Int.tmod_eq_emod_of_nonneg h0
  have oq : (onI x 40).tmod 2 = onI x 40 % 2 := Int.tmod_eq_emod_of_nonneg (onI_bd x 40).1
  rw [show onI x 40 % 2 = 1 from of_decide_eq_true hO] at oq
  rw [hA] at q3
  have hB2 : ((x % 256 : Int) != n) = true := by simp [hB]
  have s1 : ¬ n < 0 := by omega
  have s2 : ¬ 255 < n := by omega
  have MZ := meqZ
  generalize x % 256 = bb at *
  clear hA hB hO hR
  clear h0 h1
  go_enter Try.func4, Try.ntmps4
  go_wp2_with fail
  refine (TK.out _).mono ?_
  rintro e w1 ⟨rfl, hb1⟩
  obtain ⟨V, eV, hb2, hgV⟩ := mbox w1 (fun _ => false)
  go_upto_region 2 with (refine wpList_store_row rfl 23 _ _ rfl w1.heap.size (mkC (fun _ => false)) rfl rfl 23 _ (alloc_get _ _) (by kernel_rfl) rfl (by kernel_rfl) ?_)
  rw [← eV]
  clear eV
  have hq := Lib.hid (show w.heap.size ≤ w1.heap.size from hb1.size)
  replace hb2 := Lib.hid (hb1.trans (hb2.mono hq.out))
  generalize w1.heap.size = q at *
  clear hb1
  go_wp2_with fail
  refine (ON.out _).mono ?_
  rintro e w3 ⟨rfl, rfl⟩
  go_wp2_with (refine wpList_load_row rfl 23 _ rfl q rfl 23 _ (0, 0) _ hgV Try.underlying23 rfl (by kernel_rfl) ?_)
  refine (LV.out _).mono ?_
  rintro e w9 ⟨rfl, hb9⟩
  go_wp2
  go_ret
  exact ⟨rfl, hb2.out.trans (hb9.mono (by have := hb2.out.size; omega))⟩
set_option maxRecDepth 100000 in
set_option maxHeartbeats 8000000 in
theorem ltk_1100 (n x : Int) (w : World) (h0 : 0 ≤ x) (h1 : x ≤ 4294967295) (hA : ¬ x / 256 % 4 = 0) (hB : ¬ x % 256 = n) (hO : odB x = true) (hR : 0 ≤ n ∧ n ≤ 255) : Calls Try.prog 4 #[.int .i64 n, .int .u32 x] w fun e w' => e = .returned (.bool true) ∧ Below w.heap.size w w' := by
  have TK := Lib.hid (fun u => dtake_none n x u h0 h1 hR hO hB)
  have LV := Lib.hid (fun u => lives29 u)
  have ON := Lib.hid (fun u => rones_any x h0 (by omega) u)
  have c1 : IntKind.i64.wrap x = x := by rw [IntKind.wrap_i64]; omega
  have q1 : x.tdiv 256 = x / 256 := Int.tdiv_eq_ediv_of_nonneg h0
  have q2 : IntKind.i64.wrap (x / 256) = x / 256 := by rw [IntKind.wrap_i64]; omega
  have q3 : (x / 256).tmod 4 = x / 256 % 4 := Int.tmod_eq_emod_of_nonneg (by omega)
  have q4 : x.tmod 256 = x % 256 := Int.tmod_eq_emod_of_nonneg h0
  have oq : (onI x 40).tmod 2 = onI x 40 % 2 := Int.tmod_eq_emod_of_nonneg (onI_bd x 40).1
  rw [show onI x 40 % 2 = 1 from of_decide_eq_true hO] at oq
  have hA2 : ((x / 256 % 4 : Int) != 0) = true := by simp [hA]
  have hB2 : ((x % 256 : Int) != n) = true := by simp [hB]
  have s1 : ¬ n < 0 := by omega
  have s2 : ¬ 255 < n := by omega
  have MZ := meqZ
  generalize x / 256 % 4 = aa at *
  generalize x % 256 = bb at *
  clear hA hB hO hR
  clear h0 h1
  go_enter Try.func4, Try.ntmps4
  go_wp2_with fail
  refine (TK.out _).mono ?_
  rintro e w1 ⟨rfl, hb1⟩
  obtain ⟨V, eV, hb2, hgV⟩ := mbox w1 (fun _ => false)
  go_upto_region 2 with (refine wpList_store_row rfl 23 _ _ rfl w1.heap.size (mkC (fun _ => false)) rfl rfl 23 _ (alloc_get _ _) (by kernel_rfl) rfl (by kernel_rfl) ?_)
  rw [← eV]
  clear eV
  have hq := Lib.hid (show w.heap.size ≤ w1.heap.size from hb1.size)
  replace hb2 := Lib.hid (hb1.trans (hb2.mono hq.out))
  generalize w1.heap.size = q at *
  clear hb1
  go_wp2_with fail
  refine (ON.out _).mono ?_
  rintro e w3 ⟨rfl, rfl⟩
  go_wp2_with (refine wpList_load_row rfl 23 _ rfl q rfl 23 _ (0, 0) _ hgV Try.underlying23 rfl (by kernel_rfl) ?_)
  refine (LV.out _).mono ?_
  rintro e w9 ⟨rfl, hb9⟩
  go_wp2
  go_ret
  exact ⟨rfl, hb2.out.trans (hb9.mono (by have := hb2.out.size; omega))⟩
set_option maxRecDepth 100000 in
set_option maxHeartbeats 8000000 in
theorem ltk_0010 (n x : Int) (w : World) (h0 : 0 ≤ x) (h1 : x ≤ 4294967295) (hA : x / 256 % 4 = 0) (hB : x % 256 = n) (hO : odB x = false) (hR : 0 ≤ n ∧ n ≤ 255) : Calls Try.prog 4 #[.int .i64 n, .int .u32 x] w fun e w' => e = .returned (.bool true) ∧ Below w.heap.size w w' := by
  have TK := Lib.hid (fun u => dtake_sum n x u h0 h1 hR hO)
  have LV := Lib.hid (fun u => lives29 u)
  have ON := Lib.hid (fun u => rones_any x h0 (by omega) u)
  have c1 : IntKind.i64.wrap x = x := by rw [IntKind.wrap_i64]; omega
  have q1 : x.tdiv 256 = x / 256 := Int.tdiv_eq_ediv_of_nonneg h0
  have q2 : IntKind.i64.wrap (x / 256) = x / 256 := by rw [IntKind.wrap_i64]; omega
  have q3 : (x / 256).tmod 4 = x / 256 % 4 := Int.tmod_eq_emod_of_nonneg (by omega)
  have q4 : x.tmod 256 = x % 256 := Int.tmod_eq_emod_of_nonneg h0
  have oq : (onI x 40).tmod 2 = onI x 40 % 2 := Int.tmod_eq_emod_of_nonneg (onI_bd x 40).1
  rw [show onI x 40 % 2 = 0 from by have := of_decide_eq_false hO; omega] at oq
  rw [hA] at q3
  rw [hB] at q4
  have s1 : ¬ n < 0 := by omega
  have s2 : ¬ 255 < n := by omega
  have MZ := meqZ
  clear hA hB hO hR
  clear h0 h1
  go_enter Try.func4, Try.ntmps4
  go_wp2_with fail
  refine (TK.out _).mono ?_
  rintro e w1 ⟨rfl, hb1⟩
  obtain ⟨V, eV, hb2, hgV⟩ := mbox w1 (fun _ => false)
  go_upto_region 2 with (refine wpList_store_row rfl 23 _ _ rfl w1.heap.size (mkC (fun _ => false)) rfl rfl 23 _ (alloc_get _ _) (by kernel_rfl) rfl (by kernel_rfl) ?_)
  rw [← eV]
  clear eV
  have hq := Lib.hid (show w.heap.size ≤ w1.heap.size from hb1.size)
  replace hb2 := Lib.hid (hb1.trans (hb2.mono hq.out))
  generalize w1.heap.size = q at *
  clear hb1
  go_wp2_with fail
  refine (ON.out _).mono ?_
  rintro e w3 ⟨rfl, rfl⟩
  go_wp2_with (refine wpList_load_row rfl 23 _ rfl q rfl 23 _ (0, 0) _ hgV Try.underlying23 rfl (by kernel_rfl) ?_)
  refine (LV.out _).mono ?_
  rintro e w9 ⟨rfl, hb9⟩
  go_wp2
  go_ret
  exact ⟨rfl, hb2.out.trans (hb9.mono (by have := hb2.out.size; omega))⟩
set_option maxRecDepth 100000 in
set_option maxHeartbeats 8000000 in
theorem ltk_1010 (n x : Int) (w : World) (h0 : 0 ≤ x) (h1 : x ≤ 4294967295) (hA : ¬ x / 256 % 4 = 0) (hB : x % 256 = n) (hO : odB x = false) (hR : 0 ≤ n ∧ n ≤ 255) : Calls Try.prog 4 #[.int .i64 n, .int .u32 x] w fun e w' => e = .returned (.bool true) ∧ Below w.heap.size w w' := by
  have TK := Lib.hid (fun u => dtake_sum n x u h0 h1 hR hO)
  have LV := Lib.hid (fun u => lives29 u)
  have ON := Lib.hid (fun u => rones_any x h0 (by omega) u)
  have c1 : IntKind.i64.wrap x = x := by rw [IntKind.wrap_i64]; omega
  have q1 : x.tdiv 256 = x / 256 := Int.tdiv_eq_ediv_of_nonneg h0
  have q2 : IntKind.i64.wrap (x / 256) = x / 256 := by rw [IntKind.wrap_i64]; omega
  have q3 : (x / 256).tmod 4 = x / 256 % 4 := Int.tmod_eq_emod_of_nonneg (by omega)
  have q4 : x.tmod 256 = x % 256 := Int.tmod_eq_emod_of_nonneg h0
  have oq : (onI x 40).tmod 2 = onI x 40 % 2 := Int.tmod_eq_emod_of_nonneg (onI_bd x 40).1
  rw [show onI x 40 % 2 = 0 from by have := of_decide_eq_false hO; omega] at oq
  have hA2 : ((x / 256 % 4 : Int) != 0) = true := by simp [hA]
  rw [hB] at q4
  have s1 : ¬ n < 0 := by omega
  have s2 : ¬ 255 < n := by omega
  have MZ := meqZ
  generalize x / 256 % 4 = aa at *
  clear hA hB hO hR
  clear h0 h1
  go_enter Try.func4, Try.ntmps4
  go_wp2_with fail
  refine (TK.out _).mono ?_
  rintro e w1 ⟨rfl, hb1⟩
  obtain ⟨V, eV, hb2, hgV⟩ := mbox w1 (fun _ => false)
  go_upto_region 2 with (refine wpList_store_row rfl 23 _ _ rfl w1.heap.size (mkC (fun _ => false)) rfl rfl 23 _ (alloc_get _ _) (by kernel_rfl) rfl (by kernel_rfl) ?_)
  rw [← eV]
  clear eV
  have hq := Lib.hid (show w.heap.size ≤ w1.heap.size from hb1.size)
  replace hb2 := Lib.hid (hb1.trans (hb2.mono hq.out))
  generalize w1.heap.size = q at *
  clear hb1
  go_wp2_with fail
  refine (ON.out _).mono ?_
  rintro e w3 ⟨rfl, rfl⟩
  go_wp2_with (refine wpList_load_row rfl 23 _ rfl q rfl 23 _ (0, 0) _ hgV Try.underlying23 rfl (by kernel_rfl) ?_)
  refine (LV.out _).mono ?_
  rintro e w9 ⟨rfl, hb9⟩
  go_wp2
  go_ret
  exact ⟨rfl, hb2.out.trans (hb9.mono (by have := hb2.out.size; omega))⟩
set_option maxRecDepth 100000 in
set_option maxHeartbeats 8000000 in
theorem ltk_0110 (n x : Int) (w : World) (h0 : 0 ≤ x) (h1 : x ≤ 4294967295) (hA : x / 256 % 4 = 0) (hB : ¬ x % 256 = n) (hO : odB x = false) (hR : 0 ≤ n ∧ n ≤ 255) : Calls Try.prog 4 #[.int .i64 n, .int .u32 x] w fun e w' => e = .returned (.bool true) ∧ Below w.heap.size w w' := by
  have TK := Lib.hid (fun u => dtake_sum n x u h0 h1 hR hO)
  have LV := Lib.hid (fun u => lives29 u)
  have ON := Lib.hid (fun u => rones_any x h0 (by omega) u)
  have c1 : IntKind.i64.wrap x = x := by rw [IntKind.wrap_i64]; omega
  have q1 : x.tdiv 256 = x / 256 := Int.tdiv_eq_ediv_of_nonneg h0
  have q2 : IntKind.i64.wrap (x / 256) = x / 256 := by rw [IntKind.wrap_i64]; omega
  have q3 : (x / 256).tmod 4 = x / 256 % 4 := Int.tmod_eq_emod_of_nonneg (by omega)
  have q4 : x.tmod 256 = x % 256 := Int.tmod_eq_emod_of_nonneg h0
  have oq : (onI x 40).tmod 2 = onI x 40 % 2 := Int.tmod_eq_emod_of_nonneg (onI_bd x 40).1
  rw [show onI x 40 % 2 = 0 from by have := of_decide_eq_false hO; omega] at oq
  rw [hA] at q3
  have hB2 : ((x % 256 : Int) != n) = true := by simp [hB]
  have s1 : ¬ n < 0 := by omega
  have s2 : ¬ 255 < n := by omega
  have MZ := meqZ
  generalize x % 256 = bb at *
  clear hA hB hO hR
  clear h0 h1
  go_enter Try.func4, Try.ntmps4
  go_wp2_with fail
  refine (TK.out _).mono ?_
  rintro e w1 ⟨rfl, hb1⟩
  obtain ⟨V, eV, hb2, hgV⟩ := mbox w1 (fun _ => false)
  go_upto_region 2 with (refine wpList_store_row rfl 23 _ _ rfl w1.heap.size (mkC (fun _ => false)) rfl rfl 23 _ (alloc_get _ _) (by kernel_rfl) rfl (by kernel_rfl) ?_)
  rw [← eV]
  clear eV
  have hq := Lib.hid (show w.heap.size ≤ w1.heap.size from hb1.size)
  replace hb2 := Lib.hid (hb1.trans (hb2.mono hq.out))
  generalize w1.heap.size = q at *
  clear hb1
  go_wp2_with fail
  refine (ON.out _).mono ?_
  rintro e w3 ⟨rfl, rfl⟩
  go_wp2_with (refine wpList_load_row rfl 23 _ rfl q rfl 23 _ (0, 0) _ hgV Try.underlying23 rfl (by kernel_rfl) ?_)
  refine (LV.out _).mono ?_
  rintro e w9 ⟨rfl, hb9⟩
  go_wp2
  go_ret
  exact ⟨rfl, hb2.out.trans (hb9.mono (by have := hb2.out.size; omega))⟩
set_option maxRecDepth 100000 in
set_option maxHeartbeats 8000000 in
theorem ltk_1110 (n x : Int) (w : World) (h0 : 0 ≤ x) (h1 : x ≤ 4294967295) (hA : ¬ x / 256 % 4 = 0) (hB : ¬ x % 256 = n) (hO : odB x = false) (hR : 0 ≤ n ∧ n ≤ 255) : Calls Try.prog 4 #[.int .i64 n, .int .u32 x] w fun e w' => e = .returned (.bool true) ∧ Below w.heap.size w w' := by
  have TK := Lib.hid (fun u => dtake_sum n x u h0 h1 hR hO)
  have LV := Lib.hid (fun u => lives29 u)
  have ON := Lib.hid (fun u => rones_any x h0 (by omega) u)
  have c1 : IntKind.i64.wrap x = x := by rw [IntKind.wrap_i64]; omega
  have q1 : x.tdiv 256 = x / 256 := Int.tdiv_eq_ediv_of_nonneg h0
  have q2 : IntKind.i64.wrap (x / 256) = x / 256 := by rw [IntKind.wrap_i64]; omega
  have q3 : (x / 256).tmod 4 = x / 256 % 4 := Int.tmod_eq_emod_of_nonneg (by omega)
  have q4 : x.tmod 256 = x % 256 := Int.tmod_eq_emod_of_nonneg h0
  have oq : (onI x 40).tmod 2 = onI x 40 % 2 := Int.tmod_eq_emod_of_nonneg (onI_bd x 40).1
  rw [show onI x 40 % 2 = 0 from by have := of_decide_eq_false hO; omega] at oq
  have hA2 : ((x / 256 % 4 : Int) != 0) = true := by simp [hA]
  have hB2 : ((x % 256 : Int) != n) = true := by simp [hB]
  have s1 : ¬ n < 0 := by omega
  have s2 : ¬ 255 < n := by omega
  have MZ := meqZ
  generalize x / 256 % 4 = aa at *
  generalize x % 256 = bb at *
  clear hA hB hO hR
  clear h0 h1
  go_enter Try.func4, Try.ntmps4
  go_wp2_with fail
  refine (TK.out _).mono ?_
  rintro e w1 ⟨rfl, hb1⟩
  obtain ⟨V, eV, hb2, hgV⟩ := mbox w1 (fun _ => false)
  go_upto_region 2 with (refine wpList_store_row rfl 23 _ _ rfl w1.heap.size (mkC (fun _ => false)) rfl rfl 23 _ (alloc_get _ _) (by kernel_rfl) rfl (by kernel_rfl) ?_)
  rw [← eV]
  clear eV
  have hq := Lib.hid (show w.heap.size ≤ w1.heap.size from hb1.size)
  replace hb2 := Lib.hid (hb1.trans (hb2.mono hq.out))
  generalize w1.heap.size = q at *
  clear hb1
  go_wp2_with fail
  refine (ON.out _).mono ?_
  rintro e w3 ⟨rfl, rfl⟩
  go_wp2_with (refine wpList_load_row rfl 23 _ rfl q rfl 23 _ (0, 0) _ hgV Try.underlying23 rfl (by kernel_rfl) ?_)
  refine (LV.out _).mono ?_
  rintro e w9 ⟨rfl, hb9⟩
  go_wp2
  go_ret
  exact ⟨rfl, hb2.out.trans (hb9.mono (by have := hb2.out.size; omega))⟩
set_option maxRecDepth 100000 in
set_option maxHeartbeats 8000000 in
theorem ltk_0001 (n x : Int) (w : World) (h0 : 0 ≤ x) (h1 : x ≤ 4294967295) (hA : x / 256 % 4 = 0) (hB : x % 256 = n) (hO : odB x = true) (hR : n < 0) : Calls Try.prog 4 #[.int .i64 n, .int .u32 x] w fun e w' => e = .returned (.bool true) ∧ Below w.heap.size w w' := by
  have TK := Lib.hid (fun u => dtake_range n x u (by omega))
  have LV := Lib.hid (fun u => lives29 u)
  have ON := Lib.hid (fun u => rones_any x h0 (by omega) u)
  have c1 : IntKind.i64.wrap x = x := by rw [IntKind.wrap_i64]; omega
  have q1 : x.tdiv 256 = x / 256 := Int.tdiv_eq_ediv_of_nonneg h0
  have q2 : IntKind.i64.wrap (x / 256) = x / 256 := by rw [IntKind.wrap_i64]; omega
  have q3 : (x / 256).tmod 4 = x / 256 % 4 := Int.tmod_eq_emod_of_nonneg (by omega)
  have q4 : x.tmod 256 = x % 256 := Int.tmod_eq_emod_of_nonneg h0
  have oq : (onI x 40).tmod 2 = onI x 40 % 2 := Int.tmod_eq_emod_of_nonneg (onI_bd x 40).1
  rw [show onI x 40 % 2 = 1 from of_decide_eq_true hO] at oq
  rw [hA] at q3
  rw [hB] at q4
  have s1 : n < 0 := hR
  have MZ := meqZ
  clear hA hB hO hR
  clear h0 h1
  go_enter Try.func4, Try.ntmps4
  go_wp2_with fail
  refine (TK.out _).mono ?_
  rintro e w1 ⟨rfl, hb1⟩
  obtain ⟨V, eV, hb2, hgV⟩ := mbox w1 (fun _ => false)
  go_upto_region 2 with (refine wpList_store_row rfl 23 _ _ rfl w1.heap.size (mkC (fun _ => false)) rfl rfl 23 _ (alloc_get _ _) (by kernel_rfl) rfl (by kernel_rfl) ?_)
  rw [← eV]
  clear eV
  have hq := Lib.hid (show w.heap.size ≤ w1.heap.size from hb1.size)
  replace hb2 := Lib.hid (hb1.trans (hb2.mono hq.out))
  generalize w1.heap.size = q at *
  clear hb1
  go_wp2_with fail
  refine (ON.out _).mono ?_
  rintro e w3 ⟨rfl, rfl⟩
  go_wp2_with (refine wpList_load_row rfl 23 _ rfl q rfl 23 _ (0, 0) _ hgV Try.underlying23 rfl (by kernel_rfl) ?_)
  refine (LV.out _).mono ?_
  rintro e w9 ⟨rfl, hb9⟩
  go_wp2
  go_ret
  exact ⟨rfl, hb2.out.trans (hb9.mono (by have := hb2.out.size; omega))⟩
set_option maxRecDepth 100000 in
set_option maxHeartbeats 8000000 in
theorem ltk_1001 (n x : Int) (w : World) (h0 : 0 ≤ x) (h1 : x ≤ 4294967295) (hA : ¬ x / 256 % 4 = 0) (hB : x % 256 = n) (hO : odB x = true) (hR : n < 0) : Calls Try.prog 4 #[.int .i64 n, .int .u32 x] w fun e w' => e = .returned (.bool true) ∧ Below w.heap.size w w' := by
  have TK := Lib.hid (fun u => dtake_range n x u (by omega))
  have LV := Lib.hid (fun u => lives29 u)
  have ON := Lib.hid (fun u => rones_any x h0 (by omega) u)
  have c1 : IntKind.i64.wrap x = x := by rw [IntKind.wrap_i64]; omega
  have q1 : x.tdiv 256 = x / 256 := Int.tdiv_eq_ediv_of_nonneg h0
  have q2 : IntKind.i64.wrap (x / 256) = x / 256 := by rw [IntKind.wrap_i64]; omega
  have q3 : (x / 256).tmod 4 = x / 256 % 4 := Int.tmod_eq_emod_of_nonneg (by omega)
  have q4 : x.tmod 256 = x % 256 := Int.tmod_eq_emod_of_nonneg h0
  have oq : (onI x 40).tmod 2 = onI x 40 % 2 := Int.tmod_eq_emod_of_nonneg (onI_bd x 40).1
  rw [show onI x 40 % 2 = 1 from of_decide_eq_true hO] at oq
  have hA2 : ((x / 256 % 4 : Int) != 0) = true := by simp [hA]
  rw [hB] at q4
  have s1 : n < 0 := hR
  have MZ := meqZ
  generalize x / 256 % 4 = aa at *
  clear hA hB hO hR
  clear h0 h1
  go_enter Try.func4, Try.ntmps4
  go_wp2_with fail
  refine (TK.out _).mono ?_
  rintro e w1 ⟨rfl, hb1⟩
  obtain ⟨V, eV, hb2, hgV⟩ := mbox w1 (fun _ => false)
  go_upto_region 2 with (refine wpList_store_row rfl 23 _ _ rfl w1.heap.size (mkC (fun _ => false)) rfl rfl 23 _ (alloc_get _ _) (by kernel_rfl) rfl (by kernel_rfl) ?_)
  rw [← eV]
  clear eV
  have hq := Lib.hid (show w.heap.size ≤ w1.heap.size from hb1.size)
  replace hb2 := Lib.hid (hb1.trans (hb2.mono hq.out))
  generalize w1.heap.size = q at *
  clear hb1
  go_wp2_with fail
  refine (ON.out _).mono ?_
  rintro e w3 ⟨rfl, rfl⟩
  go_wp2_with (refine wpList_load_row rfl 23 _ rfl q rfl 23 _ (0, 0) _ hgV Try.underlying23 rfl (by kernel_rfl) ?_)
  refine (LV.out _).mono ?_
  rintro e w9 ⟨rfl, hb9⟩
  go_wp2
  go_ret
  exact ⟨rfl, hb2.out.trans (hb9.mono (by have := hb2.out.size; omega))⟩
set_option maxRecDepth 100000 in
set_option maxHeartbeats 8000000 in
theorem ltk_0101 (n x : Int) (w : World) (h0 : 0 ≤ x) (h1 : x ≤ 4294967295) (hA : x / 256 % 4 = 0) (hB : ¬ x % 256 = n) (hO : odB x = true) (hR : n < 0) : Calls Try.prog 4 #[.int .i64 n, .int .u32 x] w fun e w' => e = .returned (.bool true) ∧ Below w.heap.size w w' := by
  have TK := Lib.hid (fun u => dtake_range n x u (by omega))
  have LV := Lib.hid (fun u => lives29 u)
  have ON := Lib.hid (fun u => rones_any x h0 (by omega) u)
  have c1 : IntKind.i64.wrap x = x := by rw [IntKind.wrap_i64]; omega
  have q1 : x.tdiv 256 = x / 256 := Int.tdiv_eq_ediv_of_nonneg h0
  have q2 : IntKind.i64.wrap (x / 256) = x / 256 := by rw [IntKind.wrap_i64]; omega
  have q3 : (x / 256).tmod 4 = x / 256 % 4 := Int.tmod_eq_emod_of_nonneg (by omega)
  have q4 : x.tmod 256 = x % 256 := Int.tmod_eq_emod_of_nonneg h0
  have oq : (onI x 40).tmod 2 = onI x 40 % 2 := Int.tmod_eq_emod_of_nonneg (onI_bd x 40).1
  rw [show onI x 40 % 2 = 1 from of_decide_eq_true hO] at oq
  rw [hA] at q3
  have hB2 : ((x % 256 : Int) != n) = true := by simp [hB]
  have s1 : n < 0 := hR
  have MZ := meqZ
  generalize x % 256 = bb at *
  clear hA hB hO hR
  clear h0 h1
  go_enter Try.func4, Try.ntmps4
  go_wp2_with fail
  refine (TK.out _).mono ?_
  rintro e w1 ⟨rfl, hb1⟩
  obtain ⟨V, eV, hb2, hgV⟩ := mbox w1 (fun _ => false)
  go_upto_region 2 with (refine wpList_store_row rfl 23 _ _ rfl w1.heap.size (mkC (fun _ => false)) rfl rfl 23 _ (alloc_get _ _) (by kernel_rfl) rfl (by kernel_rfl) ?_)
  rw [← eV]
  clear eV
  have hq := Lib.hid (show w.heap.size ≤ w1.heap.size from hb1.size)
  replace hb2 := Lib.hid (hb1.trans (hb2.mono hq.out))
  generalize w1.heap.size = q at *
  clear hb1
  go_wp2_with fail
  refine (ON.out _).mono ?_
  rintro e w3 ⟨rfl, rfl⟩
  go_wp2_with (refine wpList_load_row rfl 23 _ rfl q rfl 23 _ (0, 0) _ hgV Try.underlying23 rfl (by kernel_rfl) ?_)
  refine (LV.out _).mono ?_
  rintro e w9 ⟨rfl, hb9⟩
  go_wp2
  go_ret
  exact ⟨rfl, hb2.out.trans (hb9.mono (by have := hb2.out.size; omega))⟩
set_option maxRecDepth 100000 in
set_option maxHeartbeats 8000000 in
theorem ltk_1101 (n x : Int) (w : World) (h0 : 0 ≤ x) (h1 : x ≤ 4294967295) (hA : ¬ x / 256 % 4 = 0) (hB : ¬ x % 256 = n) (hO : odB x = true) (hR : n < 0) : Calls Try.prog 4 #[.int .i64 n, .int .u32 x] w fun e w' => e = .returned (.bool true) ∧ Below w.heap.size w w' := by
  have TK := Lib.hid (fun u => dtake_range n x u (by omega))
  have LV := Lib.hid (fun u => lives29 u)
  have ON := Lib.hid (fun u => rones_any x h0 (by omega) u)
  have c1 : IntKind.i64.wrap x = x := by rw [IntKind.wrap_i64]; omega
  have q1 : x.tdiv 256 = x / 256 := Int.tdiv_eq_ediv_of_nonneg h0
  have q2 : IntKind.i64.wrap (x / 256) = x / 256 := by rw [IntKind.wrap_i64]; omega
  have q3 : (x / 256).tmod 4 = x / 256 % 4 := Int.tmod_eq_emod_of_nonneg (by omega)
  have q4 : x.tmod 256 = x % 256 := Int.tmod_eq_emod_of_nonneg h0
  have oq : (onI x 40).tmod 2 = onI x 40 % 2 := Int.tmod_eq_emod_of_nonneg (onI_bd x 40).1
  rw [show onI x 40 % 2 = 1 from of_decide_eq_true hO] at oq
  have hA2 : ((x / 256 % 4 : Int) != 0) = true := by simp [hA]
  have hB2 : ((x % 256 : Int) != n) = true := by simp [hB]
  have s1 : n < 0 := hR
  have MZ := meqZ
  generalize x / 256 % 4 = aa at *
  generalize x % 256 = bb at *
  clear hA hB hO hR
  clear h0 h1
  go_enter Try.func4, Try.ntmps4
  go_wp2_with fail
  refine (TK.out _).mono ?_
  rintro e w1 ⟨rfl, hb1⟩
  obtain ⟨V, eV, hb2, hgV⟩ := mbox w1 (fun _ => false)
  go_upto_region 2 with (refine wpList_store_row rfl 23 _ _ rfl w1.heap.size (mkC (fun _ => false)) rfl rfl 23 _ (alloc_get _ _) (by kernel_rfl) rfl (by kernel_rfl) ?_)
  rw [← eV]
  clear eV
  have hq := Lib.hid (show w.heap.size ≤ w1.heap.size from hb1.size)
  replace hb2 := Lib.hid (hb1.trans (hb2.mono hq.out))
  generalize w1.heap.size = q at *
  clear hb1
  go_wp2_with fail
  refine (ON.out _).mono ?_
  rintro e w3 ⟨rfl, rfl⟩
  go_wp2_with (refine wpList_load_row rfl 23 _ rfl q rfl 23 _ (0, 0) _ hgV Try.underlying23 rfl (by kernel_rfl) ?_)
  refine (LV.out _).mono ?_
  rintro e w9 ⟨rfl, hb9⟩
  go_wp2
  go_ret
  exact ⟨rfl, hb2.out.trans (hb9.mono (by have := hb2.out.size; omega))⟩
set_option maxRecDepth 100000 in
set_option maxHeartbeats 8000000 in
theorem ltk_0011 (n x : Int) (w : World) (h0 : 0 ≤ x) (h1 : x ≤ 4294967295) (hA : x / 256 % 4 = 0) (hB : x % 256 = n) (hO : odB x = false) (hR : n < 0) : Calls Try.prog 4 #[.int .i64 n, .int .u32 x] w fun e w' => e = .returned (.bool true) ∧ Below w.heap.size w w' := by
  have TK := Lib.hid (fun u => dtake_range n x u (by omega))
  have LV := Lib.hid (fun u => lives29 u)
  have ON := Lib.hid (fun u => rones_any x h0 (by omega) u)
  have c1 : IntKind.i64.wrap x = x := by rw [IntKind.wrap_i64]; omega
  have q1 : x.tdiv 256 = x / 256 := Int.tdiv_eq_ediv_of_nonneg h0
  have q2 : IntKind.i64.wrap (x / 256) = x / 256 := by rw [IntKind.wrap_i64]; omega
  have q3 : (x / 256).tmod 4 = x / 256 % 4 := Int.tmod_eq_emod_of_nonneg (by omega)
  have q4 : x.tmod 256 = x % 256 := Int.tmod_eq_emod_of_nonneg h0
  have oq : (onI x 40).tmod 2 = onI x 40 % 2 := Int.tmod_eq_emod_of_nonneg (onI_bd x 40).1
  rw [show onI x 40 % 2 = 0 from by have := of_decide_eq_false hO; omega] at oq
  rw [hA] at q3
  rw [hB] at q4
  have s1 : n < 0 := hR
  have MZ := meqZ
  clear hA hB hO hR
  clear h0 h1
  go_enter Try.func4, Try.ntmps4
  go_wp2_with fail
  refine (TK.out _).mono ?_
  rintro e w1 ⟨rfl, hb1⟩
  obtain ⟨V, eV, hb2, hgV⟩ := mbox w1 (fun _ => false)
  go_upto_region 2 with (refine wpList_store_row rfl 23 _ _ rfl w1.heap.size (mkC (fun _ => false)) rfl rfl 23 _ (alloc_get _ _) (by kernel_rfl) rfl (by kernel_rfl) ?_)
  rw [← eV]
  clear eV
  have hq := Lib.hid (show w.heap.size ≤ w1.heap.size from hb1.size)
  replace hb2 := Lib.hid (hb1.trans (hb2.mono hq.out))
  generalize w1.heap.size = q at *
  clear hb1
  go_wp2_with fail
  refine (ON.out _).mono ?_
  rintro e w3 ⟨rfl, rfl⟩
  go_wp2_with (refine wpList_load_row rfl 23 _ rfl q rfl 23 _ (0, 0) _ hgV Try.underlying23 rfl (by kernel_rfl) ?_)
  refine (LV.out _).mono ?_
  rintro e w9 ⟨rfl, hb9⟩
  go_wp2
  go_ret
  exact ⟨rfl, hb2.out.trans (hb9.mono (by have := hb2.out.size; omega))⟩
set_option maxRecDepth 100000 in
set_option maxHeartbeats 8000000 in
theorem ltk_1011 (n x : Int) (w : World) (h0 : 0 ≤ x) (h1 : x ≤ 4294967295) (hA : ¬ x / 256 % 4 = 0) (hB : x % 256 = n) (hO : odB x = false) (hR : n < 0) : Calls Try.prog 4 #[.int .i64 n, .int .u32 x] w fun e w' => e = .returned (.bool true) ∧ Below w.heap.size w w' := by
  have TK := Lib.hid (fun u => dtake_range n x u (by omega))
  have LV := Lib.hid (fun u => lives29 u)
  have ON := Lib.hid (fun u => rones_any x h0 (by omega) u)
  have c1 : IntKind.i64.wrap x = x := by rw [IntKind.wrap_i64]; omega
  have q1 : x.tdiv 256 = x / 256 := Int.tdiv_eq_ediv_of_nonneg h0
  have q2 : IntKind.i64.wrap (x / 256) = x / 256 := by rw [IntKind.wrap_i64]; omega
  have q3 : (x / 256).tmod 4 = x / 256 % 4 := Int.tmod_eq_emod_of_nonneg (by omega)
  have q4 : x.tmod 256 = x % 256 := Int.tmod_eq_emod_of_nonneg h0
  have oq : (onI x 40).tmod 2 = onI x 40 % 2 := Int.tmod_eq_emod_of_nonneg (onI_bd x 40).1
  rw [show onI x 40 % 2 = 0 from by have := of_decide_eq_false hO; omega] at oq
  have hA2 : ((x / 256 % 4 : Int) != 0) = true := by simp [hA]
  rw [hB] at q4
  have s1 : n < 0 := hR
  have MZ := meqZ
  generalize x / 256 % 4 = aa at *
  clear hA hB hO hR
  clear h0 h1
  go_enter Try.func4, Try.ntmps4
  go_wp2_with fail
  refine (TK.out _).mono ?_
  rintro e w1 ⟨rfl, hb1⟩
  obtain ⟨V, eV, hb2, hgV⟩ := mbox w1 (fun _ => false)
  go_upto_region 2 with (refine wpList_store_row rfl 23 _ _ rfl w1.heap.size (mkC (fun _ => false)) rfl rfl 23 _ (alloc_get _ _) (by kernel_rfl) rfl (by kernel_rfl) ?_)
  rw [← eV]
  clear eV
  have hq := Lib.hid (show w.heap.size ≤ w1.heap.size from hb1.size)
  replace hb2 := Lib.hid (hb1.trans (hb2.mono hq.out))
  generalize w1.heap.size = q at *
  clear hb1
  go_wp2_with fail
  refine (ON.out _).mono ?_
  rintro e w3 ⟨rfl, rfl⟩
  go_wp2_with (refine wpList_load_row rfl 23 _ rfl q rfl 23 _ (0, 0) _ hgV Try.underlying23 rfl (by kernel_rfl) ?_)
  refine (LV.out _).mono ?_
  rintro e w9 ⟨rfl, hb9⟩
  go_wp2
  go_ret
  exact ⟨rfl, hb2.out.trans (hb9.mono (by have := hb2.out.size; omega))⟩
set_option maxRecDepth 100000 in
set_option maxHeartbeats 8000000 in
theorem ltk_0111 (n x : Int) (w : World) (h0 : 0 ≤ x) (h1 : x ≤ 4294967295) (hA : x / 256 % 4 = 0) (hB : ¬ x % 256 = n) (hO : odB x = false) (hR : n < 0) : Calls Try.prog 4 #[.int .i64 n, .int .u32 x] w fun e w' => e = .returned (.bool true) ∧ Below w.heap.size w w' := by
  have TK := Lib.hid (fun u => dtake_range n x u (by omega))
  have LV := Lib.hid (fun u => lives29 u)
  have ON := Lib.hid (fun u => rones_any x h0 (by omega) u)
  have c1 : IntKind.i64.wrap x = x := by rw [IntKind.wrap_i64]; omega
  have q1 : x.tdiv 256 = x / 256 := Int.tdiv_eq_ediv_of_nonneg h0
  have q2 : IntKind.i64.wrap (x / 256) = x / 256 := by rw [IntKind.wrap_i64]; omega
  have q3 : (x / 256).tmod 4 = x / 256 % 4 := Int.tmod_eq_emod_of_nonneg (by omega)
  have q4 : x.tmod 256 = x % 256 := Int.tmod_eq_emod_of_nonneg h0
  have oq : (onI x 40).tmod 2 = onI x 40 % 2 := Int.tmod_eq_emod_of_nonneg (onI_bd x 40).1
  rw [show onI x 40 % 2 = 0 from by have := of_decide_eq_false hO; omega] at oq
  rw [hA] at q3
  have hB2 : ((x % 256 : Int) != n) = true := by simp [hB]
  have s1 : n < 0 := hR
  have MZ := meqZ
  generalize x % 256 = bb at *
  clear hA hB hO hR
  clear h0 h1
  go_enter Try.func4, Try.ntmps4
  go_wp2_with fail
  refine (TK.out _).mono ?_
  rintro e w1 ⟨rfl, hb1⟩
  obtain ⟨V, eV, hb2, hgV⟩ := mbox w1 (fun _ => false)
  go_upto_region 2 with (refine wpList_store_row rfl 23 _ _ rfl w1.heap.size (mkC (fun _ => false)) rfl rfl 23 _ (alloc_get _ _) (by kernel_rfl) rfl (by kernel_rfl) ?_)
  rw [← eV]
  clear eV
  have hq := Lib.hid (show w.heap.size ≤ w1.heap.size from hb1.size)
  replace hb2 := Lib.hid (hb1.trans (hb2.mono hq.out))
  generalize w1.heap.size = q at *
  clear hb1
  go_wp2_with fail
  refine (ON.out _).mono ?_
  rintro e w3 ⟨rfl, rfl⟩
  go_wp2_with (refine wpList_load_row rfl 23 _ rfl q rfl 23 _ (0, 0) _ hgV Try.underlying23 rfl (by kernel_rfl) ?_)
  refine (LV.out _).mono ?_
  rintro e w9 ⟨rfl, hb9⟩
  go_wp2
  go_ret
  exact ⟨rfl, hb2.out.trans (hb9.mono (by have := hb2.out.size; omega))⟩
set_option maxRecDepth 100000 in
set_option maxHeartbeats 8000000 in
theorem ltk_1111 (n x : Int) (w : World) (h0 : 0 ≤ x) (h1 : x ≤ 4294967295) (hA : ¬ x / 256 % 4 = 0) (hB : ¬ x % 256 = n) (hO : odB x = false) (hR : n < 0) : Calls Try.prog 4 #[.int .i64 n, .int .u32 x] w fun e w' => e = .returned (.bool true) ∧ Below w.heap.size w w' := by
  have TK := Lib.hid (fun u => dtake_range n x u (by omega))
  have LV := Lib.hid (fun u => lives29 u)
  have ON := Lib.hid (fun u => rones_any x h0 (by omega) u)
  have c1 : IntKind.i64.wrap x = x := by rw [IntKind.wrap_i64]; omega
  have q1 : x.tdiv 256 = x / 256 := Int.tdiv_eq_ediv_of_nonneg h0
  have q2 : IntKind.i64.wrap (x / 256) = x / 256 := by rw [IntKind.wrap_i64]; omega
  have q3 : (x / 256).tmod 4 = x / 256 % 4 := Int.tmod_eq_emod_of_nonneg (by omega)
  have q4 : x.tmod 256 = x % 256 := Int.tmod_eq_emod_of_nonneg h0
  have oq : (onI x 40).tmod 2 = onI x 40 % 2 := Int.tmod_eq_emod_of_nonneg (onI_bd x 40).1
  rw [show onI x 40 % 2 = 0 from by have := of_decide_eq_false hO; omega] at oq
  have hA2 : ((x / 256 % 4 : Int) != 0) = true := by simp [hA]
  have hB2 : ((x % 256 : Int) != n) = true := by simp [hB]
  have s1 : n < 0 := hR
  have MZ := meqZ
  generalize x / 256 % 4 = aa at *
  generalize x % 256 = bb at *
  clear hA hB hO hR
  clear h0 h1
  go_enter Try.func4, Try.ntmps4
  go_wp2_with fail
  refine (TK.out _).mono ?_
  rintro e w1 ⟨rfl, hb1⟩
  obtain ⟨V, eV, hb2, hgV⟩ := mbox w1 (fun _ => false)
  go_upto_region 2 with (refine wpList_store_row rfl 23 _ _ rfl w1.heap.size (mkC (fun _ => false)) rfl rfl 23 _ (alloc_get _ _) (by kernel_rfl) rfl (by kernel_rfl) ?_)
  rw [← eV]
  clear eV
  have hq := Lib.hid (show w.heap.size ≤ w1.heap.size from hb1.size)
  replace hb2 := Lib.hid (hb1.trans (hb2.mono hq.out))
  generalize w1.heap.size = q at *
  clear hb1
  go_wp2_with fail
  refine (ON.out _).mono ?_
  rintro e w3 ⟨rfl, rfl⟩
  go_wp2_with (refine wpList_load_row rfl 23 _ rfl q rfl 23 _ (0, 0) _ hgV Try.underlying23 rfl (by kernel_rfl) ?_)
  refine (LV.out _).mono ?_
  rintro e w9 ⟨rfl, hb9⟩
  go_wp2
  go_ret
  exact ⟨rfl, hb2.out.trans (hb9.mono (by have := hb2.out.size; omega))⟩
set_option maxRecDepth 100000 in
set_option maxHeartbeats 8000000 in
theorem ltk_0002 (n x : Int) (w : World) (h0 : 0 ≤ x) (h1 : x ≤ 4294967295) (hA : x / 256 % 4 = 0) (hB : x % 256 = n) (hO : odB x = true) (hR : 255 < n) : Calls Try.prog 4 #[.int .i64 n, .int .u32 x] w fun e w' => e = .returned (.bool true) ∧ Below w.heap.size w w' := by
  have TK := Lib.hid (fun u => dtake_range n x u (by omega))
  have LV := Lib.hid (fun u => lives29 u)
  have ON := Lib.hid (fun u => rones_any x h0 (by omega) u)
  have c1 : IntKind.i64.wrap x = x := by rw [IntKind.wrap_i64]; omega
  have q1 : x.tdiv 256 = x / 256 := Int.tdiv_eq_ediv_of_nonneg h0
  have q2 : IntKind.i64.wrap (x / 256) = x / 256 := by rw [IntKind.wrap_i64]; omega
  have q3 : (x / 256).tmod 4 = x / 256 % 4 := Int.tmod_eq_emod_of_nonneg (by omega)
  have q4 : x.tmod 256 = x % 256 := Int.tmod_eq_emod_of_nonneg h0
  have oq : (onI x 40).tmod 2 = onI x 40 % 2 := Int.tmod_eq_emod_of_nonneg (onI_bd x 40).1
  rw [show onI x 40 % 2 = 1 from of_decide_eq_true hO] at oq
  rw [hA] at q3
  rw [hB] at q4
  have s1 : ¬ n < 0 := by omega
  have s2 : 255 < n := hR
  have MZ := meqZ
  clear hA hB hO hR
  clear h0 h1
  go_enter Try.func4, Try.ntmps4
  go_wp2_with fail
  refine (TK.out _).mono ?_
  rintro e w1 ⟨rfl, hb1⟩
  obtain ⟨V, eV, hb2, hgV⟩ := mbox w1 (fun _ => false)
  go_upto_region 2 with (refine wpList_store_row rfl 23 _ _ rfl w1.heap.size (mkC (fun _ => false)) rfl rfl 23 _ (alloc_get _ _) (by kernel_rfl) rfl (by kernel_rfl) ?_)
  rw [← eV]
  clear eV
  have hq := Lib.hid (show w.heap.size ≤ w1.heap.size from hb1.size)
  replace hb2 := Lib.hid (hb1.trans (hb2.mono hq.out))
  generalize w1.heap.size = q at *
  clear hb1
  go_wp2_with fail
  refine (ON.out _).mono ?_
  rintro e w3 ⟨rfl, rfl⟩
  go_wp2_with (refine wpList_load_row rfl 23 _ rfl q rfl 23 _ (0, 0) _ hgV Try.underlying23 rfl (by kernel_rfl) ?_)
  refine (LV.out _).mono ?_
  rintro e w9 ⟨rfl, hb9⟩
  go_wp2
  go_ret
  exact ⟨rfl, hb2.out.trans (hb9.mono (by have := hb2.out.size; omega))⟩
set_option maxRecDepth 100000 in
set_option maxHeartbeats 8000000 in
theorem ltk_1002 (n x : Int) (w : World) (h0 : 0 ≤ x) (h1 : x ≤ 4294967295) (hA : ¬ x / 256 % 4 = 0) (hB : x % 256 = n) (hO : odB x = true) (hR : 255 < n) : Calls Try.prog 4 #[.int .i64 n, .int .u32 x] w fun e w' => e = .returned (.bool true) ∧ Below w.heap.size w w' := by
  have TK := Lib.hid (fun u => dtake_range n x u (by omega))
  have LV := Lib.hid (fun u => lives29 u)
  have ON := Lib.hid (fun u => rones_any x h0 (by omega) u)
  have c1 : IntKind.i64.wrap x = x := by rw [IntKind.wrap_i64]; omega
  have q1 : x.tdiv 256 = x / 256 := Int.tdiv_eq_ediv_of_nonneg h0
  have q2 : IntKind.i64.wrap (x / 256) = x / 256 := by rw [IntKind.wrap_i64]; omega
  have q3 : (x / 256).tmod 4 = x / 256 % 4 := Int.tmod_eq_emod_of_nonneg (by omega)
  have q4 : x.tmod 256 = x % 256 := Int.tmod_eq_emod_of_nonneg h0
  have oq : (onI x 40).tmod 2 = onI x 40 % 2 := Int.tmod_eq_emod_of_nonneg (onI_bd x 40).1
  rw [show onI x 40 % 2 = 1 from of_decide_eq_true hO] at oq
  have hA2 : ((x / 256 % 4 : Int) != 0) = true := by simp [hA]
  rw [hB] at q4
  have s1 : ¬ n < 0 := by omega
  have s2 : 255 < n := hR
  have MZ := meqZ
  generalize x / 256 % 4 = aa at *
  clear hA hB hO hR
  clear h0 h1
  go_enter Try.func4, Try.ntmps4
  go_wp2_with fail
  refine (TK.out _).mono ?_
  rintro e w1 ⟨rfl, hb1⟩
  obtain ⟨V, eV, hb2, hgV⟩ := mbox w1 (fun _ => false)
  go_upto_region 2 with (refine wpList_store_row rfl 23 _ _ rfl w1.heap.size (mkC (fun _ => false)) rfl rfl 23 _ (alloc_get _ _) (by kernel_rfl) rfl (by kernel_rfl) ?_)
  rw [← eV]
  clear eV
  have hq := Lib.hid (show w.heap.size ≤ w1.heap.size from hb1.size)
  replace hb2 := Lib.hid (hb1.trans (hb2.mono hq.out))
  generalize w1.heap.size = q at *
  clear hb1
  go_wp2_with fail
  refine (ON.out _).mono ?_
  rintro e w3 ⟨rfl, rfl⟩
  go_wp2_with (refine wpList_load_row rfl 23 _ rfl q rfl 23 _ (0, 0) _ hgV Try.underlying23 rfl (by kernel_rfl) ?_)
  refine (LV.out _).mono ?_
  rintro e w9 ⟨rfl, hb9⟩
  go_wp2
  go_ret
  exact ⟨rfl, hb2.out.trans (hb9.mono (by have := hb2.out.size; omega))⟩
set_option maxRecDepth 100000 in
set_option maxHeartbeats 8000000 in
theorem ltk_0102 (n x : Int) (w : World) (h0 : 0 ≤ x) (h1 : x ≤ 4294967295) (hA : x / 256 % 4 = 0) (hB : ¬ x % 256 = n) (hO : odB x = true) (hR : 255 < n) : Calls Try.prog 4 #[.int .i64 n, .int .u32 x] w fun e w' => e = .returned (.bool true) ∧ Below w.heap.size w w' := by
  have TK := Lib.hid (fun u => dtake_range n x u (by omega))
  have LV := Lib.hid (fun u => lives29 u)
  have ON := Lib.hid (fun u => rones_any x h0 (by omega) u)
  have c1 : IntKind.i64.wrap x = x := by rw [IntKind.wrap_i64]; omega
  have q1 : x.tdiv 256 = x / 256 := Int.tdiv_eq_ediv_of_nonneg h0
  have q2 : IntKind.i64.wrap (x / 256) = x / 256 := by rw [IntKind.wrap_i64]; omega
  have q3 : (x / 256).tmod 4 = x / 256 % 4 := Int.tmod_eq_emod_of_nonneg (by omega)
  have q4 : x.tmod 256 = x % 256 := Int.tmod_eq_emod_of_nonneg h0
  have oq : (onI x 40).tmod 2 = onI x 40 % 2 := Int.tmod_eq_emod_of_nonneg (onI_bd x 40).1
  rw [show onI x 40 % 2 = 1 from of_decide_eq_true hO] at oq
  rw [hA] at q3
  have hB2 : ((x % 256 : Int) != n) = true := by simp [hB]
  have s1 : ¬ n < 0 := by omega
  have s2 : 255 < n := hR
  have MZ := meqZ
  generalize x % 256 = bb at *
  clear hA hB hO hR
  clear h0 h1
  go_enter Try.func4, Try.ntmps4
  go_wp2_with fail
  refine (TK.out _).mono ?_
  rintro e w1 ⟨rfl, hb1⟩
  obtain ⟨V, eV, hb2, hgV⟩ := mbox w1 (fun _ => false)
  go_upto_region 2 with (refine wpList_store_row rfl 23 _ _ rfl w1.heap.size (mkC (fun _ => false)) rfl rfl 23 _ (alloc_get _ _) (by kernel_rfl) rfl (by kernel_rfl) ?_)
  rw [← eV]
  clear eV
  have hq := Lib.hid (show w.heap.size ≤ w1.heap.size from hb1.size)
  replace hb2 := Lib.hid (hb1.trans (hb2.mono hq.out))
  generalize w1.heap.size = q at *
  clear hb1
  go_wp2_with fail
  refine (ON.out _).mono ?_
  rintro e w3 ⟨rfl, rfl⟩
  go_wp2_with (refine wpList_load_row rfl 23 _ rfl q rfl 23 _ (0, 0) _ hgV Try.underlying23 rfl (by kernel_rfl) ?_)
  refine (LV.out _).mono ?_
  rintro e w9 ⟨rfl, hb9⟩
  go_wp2
  go_ret
  exact ⟨rfl, hb2.out.trans (hb9.mono (by have := hb2.out.size; omega))⟩
set_option maxRecDepth 100000 in
set_option maxHeartbeats 8000000 in
theorem ltk_1102 (n x : Int) (w : World) (h0 : 0 ≤ x) (h1 : x ≤ 4294967295) (hA : ¬ x / 256 % 4 = 0) (hB : ¬ x % 256 = n) (hO : odB x = true) (hR : 255 < n) : Calls Try.prog 4 #[.int .i64 n, .int .u32 x] w fun e w' => e = .returned (.bool true) ∧ Below w.heap.size w w' := by
  have TK := Lib.hid (fun u => dtake_range n x u (by omega))
  have LV := Lib.hid (fun u => lives29 u)
  have ON := Lib.hid (fun u => rones_any x h0 (by omega) u)
  have c1 : IntKind.i64.wrap x = x := by rw [IntKind.wrap_i64]; omega
  have q1 : x.tdiv 256 = x / 256 := Int.tdiv_eq_ediv_of_nonneg h0
  have q2 : IntKind.i64.wrap (x / 256) = x / 256 := by rw [IntKind.wrap_i64]; omega
  have q3 : (x / 256).tmod 4 = x / 256 % 4 := Int.tmod_eq_emod_of_nonneg (by omega)
  have q4 : x.tmod 256 = x % 256 := Int.tmod_eq_emod_of_nonneg h0
  have oq : (onI x 40).tmod 2 = onI x 40 % 2 := Int.tmod_eq_emod_of_nonneg (onI_bd x 40).1
  rw [show onI x 40 % 2 = 1 from of_decide_eq_true hO] at oq
  have hA2 : ((x / 256 % 4 : Int) != 0) = true := by simp [hA]
  have hB2 : ((x % 256 : Int) != n) = true := by simp [hB]
  have s1 : ¬ n < 0 := by omega
  have s2 : 255 < n := hR
  have MZ := meqZ
  generalize x / 256 % 4 = aa at *
  generalize x % 256 = bb at *
  clear hA hB hO hR
  clear h0 h1
  go_enter Try.func4, Try.ntmps4
  go_wp2_with fail
  refine (TK.out _).mono ?_
  rintro e w1 ⟨rfl, hb1⟩
  obtain ⟨V, eV, hb2, hgV⟩ := mbox w1 (fun _ => false)
  go_upto_region 2 with (refine wpList_store_row rfl 23 _ _ rfl w1.heap.size (mkC (fun _ => false)) rfl rfl 23 _ (alloc_get _ _) (by kernel_rfl) rfl (by kernel_rfl) ?_)
  rw [← eV]
  clear eV
  have hq := Lib.hid (show w.heap.size ≤ w1.heap.size from hb1.size)
  replace hb2 := Lib.hid (hb1.trans (hb2.mono hq.out))
  generalize w1.heap.size = q at *
  clear hb1
  go_wp2_with fail
  refine (ON.out _).mono ?_
  rintro e w3 ⟨rfl, rfl⟩
  go_wp2_with (refine wpList_load_row rfl 23 _ rfl q rfl 23 _ (0, 0) _ hgV Try.underlying23 rfl (by kernel_rfl) ?_)
  refine (LV.out _).mono ?_
  rintro e w9 ⟨rfl, hb9⟩
  go_wp2
  go_ret
  exact ⟨rfl, hb2.out.trans (hb9.mono (by have := hb2.out.size; omega))⟩
set_option maxRecDepth 100000 in
set_option maxHeartbeats 8000000 in
theorem ltk_0012 (n x : Int) (w : World) (h0 : 0 ≤ x) (h1 : x ≤ 4294967295) (hA : x / 256 % 4 = 0) (hB : x % 256 = n) (hO : odB x = false) (hR : 255 < n) : Calls Try.prog 4 #[.int .i64 n, .int .u32 x] w fun e w' => e = .returned (.bool true) ∧ Below w.heap.size w w' := by
  have TK := Lib.hid (fun u => dtake_range n x u (by omega))
  have LV := Lib.hid (fun u => lives29 u)
  have ON := Lib.hid (fun u => rones_any x h0 (by omega) u)
  have c1 : IntKind.i64.wrap x = x := by rw [IntKind.wrap_i64]; omega
  have q1 : x.tdiv 256 = x / 256 := Int.tdiv_eq_ediv_of_nonneg h0
  have q2 : IntKind.i64.wrap (x / 256) = x / 256 := by rw [IntKind.wrap_i64]; omega
  have q3 : (x / 256).tmod 4 = x / 256 % 4 := Int.tmod_eq_emod_of_nonneg (by omega)
  have q4 : x.tmod 256 = x % 256 := Int.tmod_eq_emod_of_nonneg h0
  have oq : (onI x 40).tmod 2 = onI x 40 % 2 := Int.tmod_eq_emod_of_nonneg (onI_bd x 40).1
  rw [show onI x 40 % 2 = 0 from by have := of_decide_eq_false hO; omega] at oq
  rw [hA] at q3
  rw [hB] at q4
  have s1 : ¬ n < 0 := by omega
  have s2 : 255 < n := hR
  have MZ := meqZ
  clear hA hB hO hR
  clear h0 h1
  go_enter Try.func4, Try.ntmps4
  go_wp2_with fail
  refine (TK.out _).mono ?_
  rintro e w1 ⟨rfl, hb1⟩
  obtain ⟨V, eV, hb2, hgV⟩ := mbox w1 (fun _ => false)
  go_upto_region 2 with (refine wpList_store_row rfl 23 _ _ rfl w1.heap.size (mkC (fun _ => false)) rfl rfl 23 _ (alloc_get _ _) (by kernel_rfl) rfl (by kernel_rfl) ?_)
  rw [← eV]
  clear eV
  have hq := Lib.hid (show w.heap.size ≤ w1.heap.size from hb1.size)
  replace hb2 := Lib.hid (hb1.trans (hb2.mono hq.out))
  generalize w1.heap.size = q at *
  clear hb1
  go_wp2_with fail
  refine (ON.out _).mono ?_
  rintro e w3 ⟨rfl, rfl⟩
  go_wp2_with (refine wpList_load_row rfl 23 _ rfl q rfl 23 _ (0, 0) _ hgV Try.underlying23 rfl (by kernel_rfl) ?_)
  refine (LV.out _).mono ?_
  rintro e w9 ⟨rfl, hb9⟩
  go_wp2
  go_ret
  exact ⟨rfl, hb2.out.trans (hb9.mono (by have := hb2.out.size; omega))⟩
set_option maxRecDepth 100000 in
set_option maxHeartbeats 8000000 in
theorem ltk_1012 (n x : Int) (w : World) (h0 : 0 ≤ x) (h1 : x ≤ 4294967295) (hA : ¬ x / 256 % 4 = 0) (hB : x % 256 = n) (hO : odB x = false) (hR : 255 < n) : Calls Try.prog 4 #[.int .i64 n, .int .u32 x] w fun e w' => e = .returned (.bool true) ∧ Below w.heap.size w w' := by
  have TK := Lib.hid (fun u => dtake_range n x u (by omega))
  have LV := Lib.hid (fun u => lives29 u)
  have ON := Lib.hid (fun u => rones_any x h0 (by omega) u)
  have c1 : IntKind.i64.wrap x = x := by rw [IntKind.wrap_i64]; omega
  have q1 : x.tdiv 256 = x / 256 := Int.tdiv_eq_ediv_of_nonneg h0
  have q2 : IntKind.i64.wrap (x / 256) = x / 256 := by rw [IntKind.wrap_i64]; omega
  have q3 : (x / 256).tmod 4 = x / 256 % 4 := Int.tmod_eq_emod_of_nonneg (by omega)
  have q4 : x.tmod 256 = x % 256 := Int.tmod_eq_emod_of_nonneg h0
  have oq : (onI x 40).tmod 2 = onI x 40 % 2 := Int.tmod_eq_emod_of_nonneg (onI_bd x 40).1
  rw [show onI x 40 % 2 = 0 from by have := of_decide_eq_false hO; omega] at oq
  have hA2 : ((x / 256 % 4 : Int) != 0) = true := by simp [hA]
  rw [hB] at q4
  have s1 : ¬ n < 0 := by omega
  have s2 : 255 < n := hR
  have MZ := meqZ
  generalize x / 256 % 4 = aa at *
  clear hA hB hO hR
  clear h0 h1
  go_enter Try.func4, Try.ntmps4
  go_wp2_with fail
  refine (TK.out _).mono ?_
  rintro e w1 ⟨rfl, hb1⟩
  obtain ⟨V, eV, hb2, hgV⟩ := mbox w1 (fun _ => false)
  go_upto_region 2 with (refine wpList_store_row rfl 23 _ _ rfl w1.heap.size (mkC (fun _ => false)) rfl rfl 23 _ (alloc_get _ _) (by kernel_rfl) rfl (by kernel_rfl) ?_)
  rw [← eV]
  clear eV
  have hq := Lib.hid (show w.heap.size ≤ w1.heap.size from hb1.size)
  replace hb2 := Lib.hid (hb1.trans (hb2.mono hq.out))
  generalize w1.heap.size = q at *
  clear hb1
  go_wp2_with fail
  refine (ON.out _).mono ?_
  rintro e w3 ⟨rfl, rfl⟩
  go_wp2_with (refine wpList_load_row rfl 23 _ rfl q rfl 23 _ (0, 0) _ hgV Try.underlying23 rfl (by kernel_rfl) ?_)
  refine (LV.out _).mono ?_
  rintro e w9 ⟨rfl, hb9⟩
  go_wp2
  go_ret
  exact ⟨rfl, hb2.out.trans (hb9.mono (by have := hb2.out.size; omega))⟩
set_option maxRecDepth 100000 in
set_option maxHeartbeats 8000000 in
theorem ltk_0112 (n x : Int) (w : World) (h0 : 0 ≤ x) (h1 : x ≤ 4294967295) (hA : x / 256 % 4 = 0) (hB : ¬ x % 256 = n) (hO : odB x = false) (hR : 255 < n) : Calls Try.prog 4 #[.int .i64 n, .int .u32 x] w fun e w' => e = .returned (.bool true) ∧ Below w.heap.size w w' := by
  have TK := Lib.hid (fun u => dtake_range n x u (by omega))
  have LV := Lib.hid (fun u => lives29 u)
  have ON := Lib.hid (fun u => rones_any x h0 (by omega) u)
  have c1 : IntKind.i64.wrap x = x := by rw [IntKind.wrap_i64]; omega
  have q1 : x.tdiv 256 = x / 256 := Int.tdiv_eq_ediv_of_nonneg h0
  have q2 : IntKind.i64.wrap (x / 256) = x / 256 := by rw [IntKind.wrap_i64]; omega
  have q3 : (x / 256).tmod 4 = x / 256 % 4 := Int.tmod_eq_emod_of_nonneg (by omega)
  have q4 : x.tmod 256 = x % 256 := Int.tmod_eq_emod_of_nonneg h0
  have oq : (onI x 40).tmod 2 = onI x 40 % 2 := Int.tmod_eq_emod_of_nonneg (onI_bd x 40).1
  rw [show onI x 40 % 2 = 0 from by have := of_decide_eq_false hO; omega] at oq
  rw [hA] at q3
  have hB2 : ((x % 256 : Int) != n) = true := by simp [hB]
  have s1 : ¬ n < 0 := by omega
  have s2 : 255 < n := hR
  have MZ := meqZ
  generalize x % 256 = bb at *
  clear hA hB hO hR
  clear h0 h1
  go_enter Try.func4, Try.ntmps4
  go_wp2_with fail
  refine (TK.out _).mono ?_
  rintro e w1 ⟨rfl, hb1⟩
  obtain ⟨V, eV, hb2, hgV⟩ := mbox w1 (fun _ => false)
  go_upto_region 2 with (refine wpList_store_row rfl 23 _ _ rfl w1.heap.size (mkC (fun _ => false)) rfl rfl 23 _ (alloc_get _ _) (by kernel_rfl) rfl (by kernel_rfl) ?_)
  rw [← eV]
  clear eV
  have hq := Lib.hid (show w.heap.size ≤ w1.heap.size from hb1.size)
  replace hb2 := Lib.hid (hb1.trans (hb2.mono hq.out))
  generalize w1.heap.size = q at *
  clear hb1
  go_wp2_with fail
  refine (ON.out _).mono ?_
  rintro e w3 ⟨rfl, rfl⟩
  go_wp2_with (refine wpList_load_row rfl 23 _ rfl q rfl 23 _ (0, 0) _ hgV Try.underlying23 rfl (by kernel_rfl) ?_)
  refine (LV.out _).mono ?_
  rintro e w9 ⟨rfl, hb9⟩
  go_wp2
  go_ret
  exact ⟨rfl, hb2.out.trans (hb9.mono (by have := hb2.out.size; omega))⟩
set_option maxRecDepth 100000 in
set_option maxHeartbeats 8000000 in
theorem ltk_1112 (n x : Int) (w : World) (h0 : 0 ≤ x) (h1 : x ≤ 4294967295) (hA : ¬ x / 256 % 4 = 0) (hB : ¬ x % 256 = n) (hO : odB x = false) (hR : 255 < n) : Calls Try.prog 4 #[.int .i64 n, .int .u32 x] w fun e w' => e = .returned (.bool true) ∧ Below w.heap.size w w' := by
  have TK := Lib.hid (fun u => dtake_range n x u (by omega))
  have LV := Lib.hid (fun u => lives29 u)
  have ON := Lib.hid (fun u => rones_any x h0 (by omega) u)
  have c1 : IntKind.i64.wrap x = x := by rw [IntKind.wrap_i64]; omega
  have q1 : x.tdiv 256 = x / 256 := Int.tdiv_eq_ediv_of_nonneg h0
  have q2 : IntKind.i64.wrap (x / 256) = x / 256 := by rw [IntKind.wrap_i64]; omega
  have q3 : (x / 256).tmod 4 = x / 256 % 4 := Int.tmod_eq_emod_of_nonneg (by omega)
  have q4 : x.tmod 256 = x % 256 := Int.tmod_eq_emod_of_nonneg h0
  have oq : (onI x 40).tmod 2 = onI x 40 % 2 := Int.tmod_eq_emod_of_nonneg (onI_bd x 40).1
  rw [show onI x 40 % 2 = 0 from by have := of_decide_eq_false hO; omega] at oq
  have hA2 : ((x / 256 % 4 : Int) != 0) = true := by simp [hA]
  have hB2 : ((x % 256 : Int) != n) = true := by simp [hB]
  have s1 : ¬ n < 0 := by omega
  have s2 : 255 < n := hR
  have MZ := meqZ
  generalize x / 256 % 4 = aa at *
  generalize x % 256 = bb at *
  clear hA hB hO hR
  clear h0 h1
  go_enter Try.func4, Try.ntmps4
  go_wp2_with fail
  refine (TK.out _).mono ?_
  rintro e w1 ⟨rfl, hb1⟩
  obtain ⟨V, eV, hb2, hgV⟩ := mbox w1 (fun _ => false)
  go_upto_region 2 with (refine wpList_store_row rfl 23 _ _ rfl w1.heap.size (mkC (fun _ => false)) rfl rfl 23 _ (alloc_get _ _) (by kernel_rfl) rfl (by kernel_rfl) ?_)
  rw [← eV]
  clear eV
  have hq := Lib.hid (show w.heap.size ≤ w1.heap.size from hb1.size)
  replace hb2 := Lib.hid (hb1.trans (hb2.mono hq.out))
  generalize w1.heap.size = q at *
  clear hb1
  go_wp2_with fail
  refine (ON.out _).mono ?_
  rintro e w3 ⟨rfl, rfl⟩
  go_wp2_with (refine wpList_load_row rfl 23 _ rfl q rfl 23 _ (0, 0) _ hgV Try.underlying23 rfl (by kernel_rfl) ?_)
  refine (LV.out _).mono ?_
  rintro e w9 ⟨rfl, hb9⟩
  go_wp2
  go_ret
  exact ⟨rfl, hb2.out.trans (hb9.mono (by have := hb2.out.size; omega))⟩
set_option maxRecDepth 100000 in
set_option maxHeartbeats 8000000 in
theorem law_DiscTakes (n x : Int) (w : World) (h0 : 0 ≤ x) (h1 : x ≤ 4294967295) : Calls Try.prog 4 #[.int .i64 n, .int .u32 x] w fun e w' => e = .returned (.bool true) ∧ Below w.heap.size w w' := by
  rcases (show (0 ≤ n ∧ n ≤ 255) ∨ n < 0 ∨ 255 < n from by omega) with hR | hR | hR
  · cases hO : odB x
    · by_cases hB : x % 256 = n
      · by_cases hA : x / 256 % 4 = 0
        · exact ltk_0010 n x w h0 h1 hA hB hO hR
        · exact ltk_1010 n x w h0 h1 hA hB hO hR
      · by_cases hA : x / 256 % 4 = 0
        · exact ltk_0110 n x w h0 h1 hA hB hO hR
        · exact ltk_1110 n x w h0 h1 hA hB hO hR
    · by_cases hB : x % 256 = n
      · by_cases hA : x / 256 % 4 = 0
        · exact ltk_0000 n x w h0 h1 hA hB hO hR
        · exact ltk_1000 n x w h0 h1 hA hB hO hR
      · by_cases hA : x / 256 % 4 = 0
        · exact ltk_0100 n x w h0 h1 hA hB hO hR
        · exact ltk_1100 n x w h0 h1 hA hB hO hR
  · cases hO : odB x
    · by_cases hB : x % 256 = n
      · by_cases hA : x / 256 % 4 = 0
        · exact ltk_0011 n x w h0 h1 hA hB hO hR
        · exact ltk_1011 n x w h0 h1 hA hB hO hR
      · by_cases hA : x / 256 % 4 = 0
        · exact ltk_0111 n x w h0 h1 hA hB hO hR
        · exact ltk_1111 n x w h0 h1 hA hB hO hR
    · by_cases hB : x % 256 = n
      · by_cases hA : x / 256 % 4 = 0
        · exact ltk_0001 n x w h0 h1 hA hB hO hR
        · exact ltk_1001 n x w h0 h1 hA hB hO hR
      · by_cases hA : x / 256 % 4 = 0
        · exact ltk_0101 n x w h0 h1 hA hB hO hR
        · exact ltk_1101 n x w h0 h1 hA hB hO hR
  · cases hO : odB x
    · by_cases hB : x % 256 = n
      · by_cases hA : x / 256 % 4 = 0
        · exact ltk_0012 n x w h0 h1 hA hB hO hR
        · exact ltk_1012 n x w h0 h1 hA hB hO hR
      · by_cases hA : x / 256 % 4 = 0
        · exact ltk_0112 n x w h0 h1 hA hB hO hR
        · exact ltk_1112 n x w h0 h1 hA hB hO hR
    · by_cases hB : x % 256 = n
      · by_cases hA : x / 256 % 4 = 0
        · exact ltk_0002 n x w h0 h1 hA hB hO hR
        · exact ltk_1002 n x w h0 h1 hA hB hO hR
      · by_cases hA : x / 256 % 4 = 0
        · exact ltk_0102 n x w h0 h1 hA hB hO hR
        · exact ltk_1102 n x w h0 h1 hA hB hO hR
end Go.Proofs.Ytaijkngdelolgaa
