/- What a word says: disc.Take; walked. -/
import Derived.Test.YtaijkngdelolgaaDisc3
import Derived.Laws.CopyOwn
import Derived.Deep.Cut
namespace Go.Proofs.Ytaijkngdelolgaa
open Go.ChangeShapes Go.WideShapes Go.ChangeAt Go.RowKit
set_option linter.unusedVariables false
set_option linter.unusedSimpArgs false
/-- Nineteen flags in cells. -/
def mkC (f : Nat → Bool) : Array Value := #[.bool (f 0), .bool (f 1), .bool (f 2), .bool (f 3), .bool (f 4), .bool (f 5), .bool (f 6), .bool (f 7), .bool (f 8), .bool (f 9), .bool (f 10), .bool (f 11), .bool (f 12), .bool (f 13), .bool (f 14), .bool (f 15), .bool (f 16), .bool (f 17), .bool (f 18)]
def bup (f : Nat → Bool) (k : Nat) (b : Bool) (i : Nat) : Bool := if i = k then b else f i
theorem mkC_size (f : Nat → Bool) : (mkC f).size = 19 := rfl
theorem mkC_at (f : Nat → Bool) (k : Nat) (hk : k < 19) : (mkC f)[k]? = some (.bool (f k)) := mk_cell f k hk
theorem mkC_set (f : Nat → Bool) (k : Nat) (b : Bool) (hk : k < 19) : (mkC f).setIfInBounds k (.bool b) = mkC (bup f k b) := by
  obtain rfl | rfl | rfl | rfl | rfl | rfl | rfl | rfl | rfl | rfl | rfl | rfl | rfl | rfl | rfl | rfl | rfl | rfl | rfl : k = 0 ∨ k = 1 ∨ k = 2 ∨ k = 3 ∨ k = 4 ∨ k = 5 ∨ k = 6 ∨ k = 7 ∨ k = 8 ∨ k = 9 ∨ k = 10 ∨ k = 11 ∨ k = 12 ∨ k = 13 ∨ k = 14 ∨ k = 15 ∨ k = 16 ∨ k = 17 ∨ k = 18 := by omega
  all_goals rfl
theorem mkC_one (f : Nat → Bool) : (mkC f).all (·.oneCell') = true := by kernel_rfl
theorem mkC_ext {f g : Nat → Bool} (h : ∀ i, i < 19 → f i = g i) : mkC f = mkC g := by
  unfold mkC
  rw [h 0 (by omega), h 1 (by omega), h 2 (by omega), h 3 (by omega), h 4 (by omega), h 5 (by omega), h 6 (by omega), h 7 (by omega), h 8 (by omega), h 9 (by omega), h 10 (by omega), h 11 (by omega), h 12 (by omega), h 13 (by omega), h 14 (by omega), h 15 (by omega), h 16 (by omega), h 17 (by omega), h 18 (by omega)]
/-- The flags of a word. -/
def tkM (x : Int) (i : Nat) : Bool := decide (x / 2 ^ (10 + i) % 2 = 1)
set_option maxRecDepth 100000 in
set_option maxHeartbeats 8000000 in
theorem dtake_range (n x : Int) (w : World) (h : ¬ (0 ≤ n ∧ n ≤ 255)) : Calls Try.prog 13 #[.int .i64 n, .int .u32 x] w fun e w' => e = .returned (.tuple #[.agg (mkC fun _ => false), .int .i64 0, .int .i64 2]) ∧ Below w.heap.size w w' := by
  have NU := Lib.hid (fun u => dnum n u)
  have hd : (decide (0 ≤ n) && decide (n ≤ 255)) = false := by rw [Bool.and_eq_false_iff]; simp; omega
  rw [hd] at NU
  clear hd h
  obtain ⟨V, eV, hb0, hgV⟩ : ∃ V, V = w.alloc (.cells #[.bool false, .bool false, .bool false, .bool false, .bool false, .bool false, .bool false, .bool false, .bool false, .bool false, .bool false, .bool false, .bool false, .bool false, .bool false, .bool false, .bool false, .bool false, .bool false] 23) ∧ Below w.heap.size w V ∧ V.heap[w.heap.size]? = some (.cells (mkC fun _ => false) 23 (0, 0)) := ⟨_, rfl, (by repeat (first | exact Below.refl _ _ | assumption | apply Below.drew | apply below_drewN | (refine Below.alloc ?_ (by first | exact Nat.le_refl _ | omega | (simp <;> omega)) _) | (refine Below.setCell ?_ (by first | exact Nat.le_refl _ | omega | (simp <;> omega)) _))), alloc_get _ _⟩
  have eR : V.setRow w.heap.size (mkC fun _ => false) = V := by rw [eV]; exact World.setRow_alloc_new w #[.bool false, .bool false, .bool false, .bool false, .bool false, .bool false, .bool false, .bool false, .bool false, .bool false, .bool false, .bool false, .bool false, .bool false, .bool false, .bool false, .bool false, .bool false, .bool false] (mkC fun _ => false) 23
  go_enter Try.func13, Try.ntmps13
  go_upto_region 1 with (fail)
  rw [← eV]
  clear eV
  obtain ⟨q, hq⟩ : ∃ q, q = w.heap.size := ⟨_, rfl⟩
  rw [← hq] at hgV eR ⊢
  replace hq := Lib.hid hq
  replace eR := Lib.hid eR
  replace hb0 := Lib.hid hb0
  go_wp2_with fail
  refine (NU.out _).mono ?_
  rintro e w1 ⟨rfl, rfl⟩
  go_wp2_with (refine wpList_store_row rfl 23 _ _ rfl q (mkC fun _ => false) rfl rfl 23 _ hgV (by kernel_rfl) rfl (by kernel_rfl) ?_)
  rw [eR.out]
  refine bodyPost_ret (v := .tuple #[.agg (mkC fun _ => false), .int .i64 0, .int .i64 2]) (by have L := run_loadVar_row (P := Try.prog) _ q 23 23 (mkC (fun _ => false)) (0, 0) _ hgV Try.underlying23 rfl (by kernel_rfl); simp [results, Try.results13, asAddr, L]) rfl ⟨rfl, hb0.out⟩
set_option maxRecDepth 100000 in
set_option maxHeartbeats 8000000 in
theorem dtake_sum (n x : Int) (w : World) (h0 : 0 ≤ x) (h1 : x ≤ 4294967295) (hn : 0 ≤ n ∧ n ≤ 255) (ho : odB x = false) : Calls Try.prog 13 #[.int .i64 n, .int .u32 x] w fun e w' => e = .returned (.tuple #[.agg (mkC fun _ => false), .int .i64 0, .int .i64 4]) ∧ Below w.heap.size w w' := by
  have NU := Lib.hid (fun u => dnum n u)
  have hd : (decide (0 ≤ n) && decide (n ≤ 255)) = true := by simp; omega
  rw [hd] at NU
  clear hd
  have OD := Lib.hid (fun u => wodd x h0 h1 u)
  rw [ho] at OD
  obtain ⟨V, eV, hb0, hgV⟩ : ∃ V, V = w.alloc (.cells #[.bool false, .bool false, .bool false, .bool false, .bool false, .bool false, .bool false, .bool false, .bool false, .bool false, .bool false, .bool false, .bool false, .bool false, .bool false, .bool false, .bool false, .bool false, .bool false] 23) ∧ Below w.heap.size w V ∧ V.heap[w.heap.size]? = some (.cells (mkC fun _ => false) 23 (0, 0)) := ⟨_, rfl, (by repeat (first | exact Below.refl _ _ | assumption | apply Below.drew | apply below_drewN | (refine Below.alloc ?_ (by first | exact Nat.le_refl _ | omega | (simp <;> omega)) _) | (refine Below.setCell ?_ (by first | exact Nat.le_refl _ | omega | (simp <;> omega)) _))), alloc_get _ _⟩
  have eR : V.setRow w.heap.size (mkC fun _ => false) = V := by rw [eV]; exact World.setRow_alloc_new w #[.bool false, .bool false, .bool false, .bool false, .bool false, .bool false, .bool false, .bool false, .bool false, .bool false, .bool false, .bool false, .bool false, .bool false, .bool false, .bool false, .bool false, .bool false, .bool false] (mkC fun _ => false) 23
  go_enter Try.func13, Try.ntmps13
  go_upto_region 1 with (fail)
  rw [← eV]
  clear eV
  obtain ⟨q, hq⟩ : ∃ q, q = w.heap.size := ⟨_, rfl⟩
  rw [← hq] at hgV eR ⊢
  replace hq := Lib.hid hq
  replace eR := Lib.hid eR
  replace hb0 := Lib.hid hb0
  go_wp2_with fail
  refine (NU.out _).mono ?_
  rintro e w1 ⟨rfl, rfl⟩
  go_wp2_with fail
  refine (OD.out _).mono ?_
  rintro e w2 ⟨rfl, m, rfl⟩
  have hgW : (V.drewN m).heap[q]? = some (.cells (mkC fun _ => false) 23 (0, 0)) := hgV
  have eRW : (V.drewN m).setRow q (mkC fun _ => false) = V.drewN m := congrArg (fun z => World.drewN z m) eR.out
  replace hb0 := Lib.hid (below_drewN hb0.out m)
  have hqW := Lib.hid (show q < (V.drewN m).heap.size from by rcases Nat.lt_or_ge q V.heap.size with z | z; exact z; rw [Array.getElem?_eq_none z] at hgV; cases hgV)
  clear eR hgV
  generalize V.drewN m = W at *
  replace eRW := Lib.hid eRW
  go_wp2_with (refine wpList_store_row rfl 23 _ _ rfl q (mkC fun _ => false) rfl rfl 23 _ hgW (by kernel_rfl) rfl (by kernel_rfl) ?_)
  rw [eRW.out]
  refine bodyPost_ret (v := .tuple #[.agg (mkC fun _ => false), .int .i64 0, .int .i64 4]) (by have L := run_loadVar_row (P := Try.prog) _ q 23 23 (mkC (fun _ => false)) (0, 0) _ hgW Try.underlying23 rfl (by kernel_rfl); simp [results, Try.results13, asAddr, L]) rfl ⟨rfl, hb0.out⟩
set_option maxRecDepth 100000 in
set_option maxHeartbeats 8000000 in
theorem dtake_none (n x : Int) (w : World) (h0 : 0 ≤ x) (h1 : x ≤ 4294967295) (hn : 0 ≤ n ∧ n ≤ 255) (ho : odB x = true) (hk : ¬ x % 256 = n) : Calls Try.prog 13 #[.int .i64 n, .int .u32 x] w fun e w' => e = .returned (.tuple #[.agg (mkC fun _ => false), .int .i64 0, .int .i64 10]) ∧ Below w.heap.size w w' := by
  have NU := Lib.hid (fun u => dnum n u)
  have hd : (decide (0 ≤ n) && decide (n ≤ 255)) = true := by simp; omega
  rw [hd] at NU
  clear hd
  have OD := Lib.hid (fun u => wodd x h0 h1 u)
  rw [ho] at OD
  obtain ⟨V, eV, hb0, hgV⟩ : ∃ V, V = w.alloc (.cells #[.bool false, .bool false, .bool false, .bool false, .bool false, .bool false, .bool false, .bool false, .bool false, .bool false, .bool false, .bool false, .bool false, .bool false, .bool false, .bool false, .bool false, .bool false, .bool false] 23) ∧ Below w.heap.size w V ∧ V.heap[w.heap.size]? = some (.cells (mkC fun _ => false) 23 (0, 0)) := ⟨_, rfl, (by repeat (first | exact Below.refl _ _ | assumption | apply Below.drew | apply below_drewN | (refine Below.alloc ?_ (by first | exact Nat.le_refl _ | omega | (simp <;> omega)) _) | (refine Below.setCell ?_ (by first | exact Nat.le_refl _ | omega | (simp <;> omega)) _))), alloc_get _ _⟩
  have eR : V.setRow w.heap.size (mkC fun _ => false) = V := by rw [eV]; exact World.setRow_alloc_new w #[.bool false, .bool false, .bool false, .bool false, .bool false, .bool false, .bool false, .bool false, .bool false, .bool false, .bool false, .bool false, .bool false, .bool false, .bool false, .bool false, .bool false, .bool false, .bool false] (mkC fun _ => false) 23
  have m1 : bits .and .u32 x 255 = x % 256 := u32_mask x 8 (by decide) (by omega) (by omega)
  have m2 : IntKind.i64.wrap (x % 256) = x % 256 := by rw [IntKind.wrap_i64]; omega
  have hk2 : ((x % 256 : Int) != n) = true := by simp [hk]
  generalize x % 256 = y at *
  go_enter Try.func13, Try.ntmps13
  go_upto_region 1 with (fail)
  rw [← eV]
  clear eV
  obtain ⟨q, hq⟩ : ∃ q, q = w.heap.size := ⟨_, rfl⟩
  rw [← hq] at hgV eR ⊢
  replace hq := Lib.hid hq
  replace eR := Lib.hid eR
  replace hb0 := Lib.hid hb0
  go_wp2_with fail
  refine (NU.out _).mono ?_
  rintro e w1 ⟨rfl, rfl⟩
  go_wp2_with fail
  refine (OD.out _).mono ?_
  rintro e w2 ⟨rfl, m, rfl⟩
  have hgW : (V.drewN m).heap[q]? = some (.cells (mkC fun _ => false) 23 (0, 0)) := hgV
  have eRW : (V.drewN m).setRow q (mkC fun _ => false) = V.drewN m := congrArg (fun z => World.drewN z m) eR.out
  replace hb0 := Lib.hid (below_drewN hb0.out m)
  have hqW := Lib.hid (show q < (V.drewN m).heap.size from by rcases Nat.lt_or_ge q V.heap.size with z | z; exact z; rw [Array.getElem?_eq_none z] at hgV; cases hgV)
  clear eR hgV
  generalize V.drewN m = W at *
  replace eRW := Lib.hid eRW
  go_wp2_with (refine wpList_store_row rfl 23 _ _ rfl q (mkC fun _ => false) rfl rfl 23 _ hgW (by kernel_rfl) rfl (by kernel_rfl) ?_)
  rw [eRW.out]
  refine bodyPost_ret (v := .tuple #[.agg (mkC fun _ => false), .int .i64 0, .int .i64 10]) (by have L := run_loadVar_row (P := Try.prog) _ q 23 23 (mkC (fun _ => false)) (0, 0) _ hgW Try.underlying23 rfl (by kernel_rfl); simp [results, Try.results13, asAddr, L]) rfl ⟨rfl, hb0.out⟩
set_option maxRecDepth 100000 in
set_option maxHeartbeats 8000000 in
theorem dtake_form (n x : Int) (w : World) (h0 : 0 ≤ x) (h1 : x ≤ 4294967295) (hn : 0 ≤ n ∧ n ≤ 255) (ho : odB x = true) (hk : x % 256 = n) (hf : ¬ x / 256 % 4 = 0) : Calls Try.prog 13 #[.int .i64 n, .int .u32 x] w fun e w' => e = .returned (.tuple #[.agg (mkC fun _ => false), .int .i64 0, .int .i64 3]) ∧ Below w.heap.size w w' := by
  have NU := Lib.hid (fun u => dnum n u)
  have hd : (decide (0 ≤ n) && decide (n ≤ 255)) = true := by simp; omega
  rw [hd] at NU
  clear hd
  have OD := Lib.hid (fun u => wodd x h0 h1 u)
  rw [ho] at OD
  obtain ⟨V, eV, hb0, hgV⟩ : ∃ V, V = w.alloc (.cells #[.bool false, .bool false, .bool false, .bool false, .bool false, .bool false, .bool false, .bool false, .bool false, .bool false, .bool false, .bool false, .bool false, .bool false, .bool false, .bool false, .bool false, .bool false, .bool false] 23) ∧ Below w.heap.size w V ∧ V.heap[w.heap.size]? = some (.cells (mkC fun _ => false) 23 (0, 0)) := ⟨_, rfl, (by repeat (first | exact Below.refl _ _ | assumption | apply Below.drew | apply below_drewN | (refine Below.alloc ?_ (by first | exact Nat.le_refl _ | omega | (simp <;> omega)) _) | (refine Below.setCell ?_ (by first | exact Nat.le_refl _ | omega | (simp <;> omega)) _))), alloc_get _ _⟩
  have eR : V.setRow w.heap.size (mkC fun _ => false) = V := by rw [eV]; exact World.setRow_alloc_new w #[.bool false, .bool false, .bool false, .bool false, .bool false, .bool false, .bool false, .bool false, .bool false, .bool false, .bool false, .bool false, .bool false, .bool false, .bool false, .bool false, .bool false, .bool false, .bool false] (mkC fun _ => false) 23
  have m1 : bits .and .u32 x 255 = x % 256 := u32_mask x 8 (by decide) (by omega) (by omega)
  have m2 : IntKind.i64.wrap (x % 256) = x % 256 := by rw [IntKind.wrap_i64]; omega
  have m3 : bits .and .u32 (x / 256) 3 = x / 256 % 4 := u32_mask (x / 256) 2 (by decide) (by omega) (by omega)
  have hf2 : ((x / 256 % 4 : Int) != 0) = true := by simp [hf]
  rw [hk] at m1 m2
  generalize x / 256 % 4 = z at *
  go_enter Try.func13, Try.ntmps13
  go_upto_region 1 with (fail)
  rw [← eV]
  clear eV
  obtain ⟨q, hq⟩ : ∃ q, q = w.heap.size := ⟨_, rfl⟩
  rw [← hq] at hgV eR ⊢
  replace hq := Lib.hid hq
  replace eR := Lib.hid eR
  replace hb0 := Lib.hid hb0
  go_wp2_with fail
  refine (NU.out _).mono ?_
  rintro e w1 ⟨rfl, rfl⟩
  go_wp2_with fail
  refine (OD.out _).mono ?_
  rintro e w2 ⟨rfl, m, rfl⟩
  have hgW : (V.drewN m).heap[q]? = some (.cells (mkC fun _ => false) 23 (0, 0)) := hgV
  have eRW : (V.drewN m).setRow q (mkC fun _ => false) = V.drewN m := congrArg (fun z => World.drewN z m) eR.out
  replace hb0 := Lib.hid (below_drewN hb0.out m)
  have hqW := Lib.hid (show q < (V.drewN m).heap.size from by rcases Nat.lt_or_ge q V.heap.size with z | z; exact z; rw [Array.getElem?_eq_none z] at hgV; cases hgV)
  clear eR hgV
  generalize V.drewN m = W at *
  replace eRW := Lib.hid eRW
  go_wp2_with (refine wpList_store_row rfl 23 _ _ rfl q (mkC fun _ => false) rfl rfl 23 _ hgW (by kernel_rfl) rfl (by kernel_rfl) ?_)
  rw [eRW.out]
  refine bodyPost_ret (v := .tuple #[.agg (mkC fun _ => false), .int .i64 0, .int .i64 3]) (by have L := run_loadVar_row (P := Try.prog) _ q 23 23 (mkC (fun _ => false)) (0, 0) _ hgW Try.underlying23 rfl (by kernel_rfl); simp [results, Try.results13, asAddr, L]) rfl ⟨rfl, hb0.out⟩
set_option maxRecDepth 100000 in
set_option maxHeartbeats 8000000 in
theorem dtake_ok (n x : Int) (w : World) (h0 : 0 ≤ x) (h1 : x ≤ 4294967295) (hn : 0 ≤ n ∧ n ≤ 255) (ho : odB x = true) (hk : x % 256 = n) (hf : x / 256 % 4 = 0) : Calls Try.prog 13 #[.int .i64 n, .int .u32 x] w fun e w' => e = .returned (.tuple #[.agg (mkC (tkM x)), .int .i64 (x / 536870912 % 4), .int .i64 0]) ∧ Below w.heap.size w w' := by
  have NU := Lib.hid (fun u => dnum n u)
  have hd : (decide (0 ≤ n) && decide (n ≤ 255)) = true := by simp; omega
  rw [hd] at NU
  clear hd
  have OD := Lib.hid (fun u => wodd x h0 h1 u)
  rw [ho] at OD
  obtain ⟨V, eV, hb0, hgV⟩ : ∃ V, V = w.alloc (.cells #[.bool false, .bool false, .bool false, .bool false, .bool false, .bool false, .bool false, .bool false, .bool false, .bool false, .bool false, .bool false, .bool false, .bool false, .bool false, .bool false, .bool false, .bool false, .bool false] 23) ∧ Below w.heap.size w V ∧ V.heap[w.heap.size]? = some (.cells (mkC fun _ => false) 23 (0, 0)) := ⟨_, rfl, (by repeat (first | exact Below.refl _ _ | assumption | apply Below.drew | apply below_drewN | (refine Below.alloc ?_ (by first | exact Nat.le_refl _ | omega | (simp <;> omega)) _) | (refine Below.setCell ?_ (by first | exact Nat.le_refl _ | omega | (simp <;> omega)) _))), alloc_get _ _⟩
  have eR : V.setRow w.heap.size (mkC fun _ => false) = V := by rw [eV]; exact World.setRow_alloc_new w #[.bool false, .bool false, .bool false, .bool false, .bool false, .bool false, .bool false, .bool false, .bool false, .bool false, .bool false, .bool false, .bool false, .bool false, .bool false, .bool false, .bool false, .bool false, .bool false] (mkC fun _ => false) 23
  have m1 : bits .and .u32 x 255 = x % 256 := u32_mask x 8 (by decide) (by omega) (by omega)
  have m2 : IntKind.i64.wrap (x % 256) = x % 256 := by rw [IntKind.wrap_i64]; omega
  have m3 : bits .and .u32 (x / 256) 3 = x / 256 % 4 := u32_mask (x / 256) 2 (by decide) (by omega) (by omega)
  rw [hk] at m1 m2
  rw [hf] at m3
  have m5 : bits .and .u32 (x / 536870912) 3 = x / 536870912 % 4 := u32_mask (x / 536870912) 2 (by decide) (by omega) (by omega)
  have m6 : IntKind.i64.wrap (x / 536870912 % 4) = x / 536870912 % 4 := by rw [IntKind.wrap_i64]; omega
  have BT := Lib.hid (fun (k : Nat) => show bits .and .u32 (x / 2 ^ (10 + k)) 1 = x / 2 ^ (10 + k) % 2 from u32_mask (x / 2 ^ (10 + k)) 1 (by decide) (Int.ediv_nonneg h0 (Int.le_of_lt (Int.pow_pos (by decide)))) (Int.lt_of_le_of_lt (Int.ediv_le_self _ h0) (by omega)))
  go_enter Try.func13, Try.ntmps13
  go_upto_region 1 with (fail)
  rw [← eV]
  clear eV
  obtain ⟨q, hq⟩ : ∃ q, q = w.heap.size := ⟨_, rfl⟩
  rw [← hq] at hgV eR ⊢
  replace hq := Lib.hid hq
  replace eR := Lib.hid eR
  replace hb0 := Lib.hid hb0
  go_wp2_with fail
  refine (NU.out _).mono ?_
  rintro e w1 ⟨rfl, rfl⟩
  go_wp2_with fail
  refine (OD.out _).mono ?_
  rintro e w2 ⟨rfl, m, rfl⟩
  have hgW : (V.drewN m).heap[q]? = some (.cells (mkC fun _ => false) 23 (0, 0)) := hgV
  have eRW : (V.drewN m).setRow q (mkC fun _ => false) = V.drewN m := congrArg (fun z => World.drewN z m) eR.out
  replace hb0 := Lib.hid (below_drewN hb0.out m)
  have hqW := Lib.hid (show q < (V.drewN m).heap.size from by rcases Nat.lt_or_ge q V.heap.size with z | z; exact z; rw [Array.getElem?_eq_none z] at hgV; cases hgV)
  clear eR hgV
  generalize V.drewN m = W at *
  replace eRW := Lib.hid eRW
  go_upto_region 10 with (fail)
  obtain ⟨X, eX, hbX, hgX⟩ : ∃ X, X = W.alloc (.cells #[.bool false, .bool false, .bool false, .bool false, .bool false, .bool false, .bool false, .bool false, .bool false, .bool false, .bool false, .bool false, .bool false, .bool false, .bool false, .bool false, .bool false, .bool false, .bool false] 23) ∧ Below W.heap.size W X ∧ X.heap[W.heap.size]? = some (.cells (mkC fun _ => false) 23 (0, 0)) := ⟨_, rfl, (by repeat (first | exact Below.refl _ _ | assumption | apply Below.drew | apply below_drewN | (refine Below.alloc ?_ (by first | exact Nat.le_refl _ | omega | (simp <;> omega)) _) | (refine Below.setCell ?_ (by first | exact Nat.le_refl _ | omega | (simp <;> omega)) _))), alloc_get _ _⟩
  rw [← eX]
  clear eX
  have hgq : X.heap[q]? = some (.cells (mkC fun _ => false) 23 (0, 0)) := (hbX.block q hqW.out).trans hgW
  have hne := Lib.hid (show W.heap.size ≠ q from by have := hqW.out; omega)
  have hwq := Lib.hid (show w.heap.size ≤ W.heap.size from by have := hqW.out; have := hq.out; omega)
  replace hb0 := Lib.hid (hb0.out.trans (hbX.mono hwq.out))
  generalize W.heap.size = p at *
  clear hgW eRW hqW hbX
  replace hgX := Lib.hid hgX
  replace hgq := Lib.hid hgq
  clear m1 m2 m3
  go_wp2_with fail
  go_loopw [32] (fun i v => ∃ (k : Nat) (g : Nat → Bool), k ≤ 19 ∧ i = .int .i64 (k : Int) ∧ Hid (∀ j, j < k → g j = tkM x j) ∧ Hid (v.heap[p]? = some (.cells (mkC g) 23 (0, 0))) ∧ Hid (v.heap[q]? = some (.cells (mkC fun _ => false) 23 (0, 0))) ∧ Hid (Below w.heap.size w v)) (fun i _ => 19 - (intOf i).toNat)
  case atStart => exact ⟨0, _, by omega, rfl, Lib.hid (fun j hj => by omega), hgX, hgq, hb0⟩
  case round =>
    clear hgX hgq hb0
    obtain ⟨k, g, hk2, rfl, hG, hgX, hgq, hb0⟩ := hrel
    generalize wr = v0 at *
    by_cases hlt : k < 19
    · have c0 := (cell_of_row v0 p k _ _ _ hgX.out).trans (mkC_at g k hlt)
      have f0 := frozen_of_row v0 p k _ _ hgX.out
      have b1 := BT.out k
      have hs := heap_setCell_same v0 p k (mkC g) 23 (.bool (tkM x k)) hgX.out
      rw [mkC_set g k _ hlt] at hs
      have ho2 := (heap_setCell_other v0 ⟨p, k, none⟩ q (.bool (tkM x k)) (Ne.symm hne.out)).trans hgq.out
      have hG2 := Lib.hid (show ∀ j, j < k + 1 → bup g k (tkM x k) j = tkM x j from fun j hj => by
        unfold bup
        by_cases e : j = k
        · rw [if_pos e, e]
        · rw [if_neg e]; exact hG.out j (by omega))
      have hb2 := Lib.hid (hb0.out.setCell (p := ⟨p, k, none⟩) (by have := hwq.out; show w.heap.size ≤ p; omega) (.bool (tkM x k)))
      have i0 : 0 ≤ (k : Int) := by omega
      have i1 : (k : Int) < 19 := by omega
      have i2 : IntKind.i64.wrap ((k : Int) + 1) = (k : Int) + 1 := by rw [IntKind.wrap_i64]; omega
      have i3 : IntKind.i64.wrap (10 + (k : Int)) = 10 + (k : Int) := by rw [IntKind.wrap_i64]; omega
      have i4 : (10 + (k : Int)).toNat = 10 + k := by omega
      have i5 : 0 ≤ 10 + (k : Int) := by omega
      have i6 : min (10 + k) 32 = 10 + k := by omega
      have tk : (x / 2 ^ (10 + k) % 2 == 1) = tkM x k := rfl
      generalize hT : tkM x k = tb at *
      replace hT := Lib.hid hT
      replace hs := Lib.hid hs
      replace ho2 := Lib.hid ho2
      replace b1 := b1
      go_wp2
      go_roundw
      case rel => exact ⟨k + 1, _, by omega, by first | rfl | go_num, hG2, hs, ho2, hb2⟩
      case measure => simp [intOf] <;> omega
    · obtain rfl : k = 19 := by omega
      have eG : mkC g = mkC (tkM x) := mkC_ext (fun i hi => hG.out i hi)
      have hgX := hgX.out
      have hgW := hgq.out
      rw [eG] at hgX
      clear eG hG hgq
      obtain ⟨g2, eg2⟩ : ∃ z, z = tkM x := ⟨_, rfl⟩
      rw [← eg2] at hgX
      replace eg2 := Lib.hid eg2
      have hbR := Lib.hid (show Below w.heap.size w (v0.setRow q (mkC g2)) from below_setRow hb0.out (by have := hq.out; omega) _)
      have hgR : (v0.setRow q (mkC g2)).heap[q]? = some (.cells (mkC g2) 23 (0, 0)) := setRow_heap v0 q _ _ _ _ hgW
      go_wp2_with (first | (refine wpList_load_row rfl 23 _ rfl p rfl 23 _ (0, 0) _ hgX Try.underlying23 rfl (by kernel_rfl) ?_) | (refine wpList_store_row rfl 23 _ _ rfl q (mkC g2) rfl rfl 23 _ hgW (by kernel_rfl) rfl (by kernel_rfl) ?_))
      refine bodyPost_ret (v := .tuple #[.agg (mkC g2), .int .i64 (x / 536870912 % 4), .int .i64 0]) (by have L := run_loadVar_row (P := Try.prog) _ q 23 23 (mkC g2) (0, 0) _ hgR Try.underlying23 rfl (by kernel_rfl); simp [results, Try.results13, asAddr, L]) rfl ⟨by rw [eg2.out], hbR.out⟩
end Go.Proofs.Ytaijkngdelolgaa
