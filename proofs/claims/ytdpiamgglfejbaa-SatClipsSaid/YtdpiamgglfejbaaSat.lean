/- Contracts of package sat and of the document's answers for it. -/
import Derived.Test.YtdpiamgglfejbaaBase
namespace Go.Proofs.Ytdpiamgglfejbaa
open Go.ChangeShapes Go.WideShapes Go.ChangeAt Go.RowKit
set_option linter.unusedVariables false

def clp (n : Int) : Int := if n < -1099511627775 then -1099511627775 else if 1099511627775 < n then 1099511627775 else n
def beyB (n : Int) : Bool := clp n != n
def bey (n x : Int) : Int := if beyB n then 1 else x
theorem clp_bd (n : Int) : -1099511627775 ≤ clp n ∧ clp n ≤ 1099511627775 := by unfold clp; omega

set_option maxHeartbeats 400000 in
theorem clip_any (n : Int) (w : World) :
    Calls Try.prog 15 #[.int .i64 n] w fun e w' => e = .returned (.tuple #[.int .i64 (clp n), .bool (beyB n)]) ∧ w = w' := by
  go_enter Try.func15, Try.ntmps15
  go_wp2
  all_goals
    go_ret2
    refine ⟨?_, rfl⟩
    refine ret_ib ?_ ?_
    · unfold clp; omega
    · unfold beyB
      rw [Bool.eq_iff_iff]; simp [clp]; omega

set_option maxHeartbeats 400000 in
theorem rclip_any (n : Int) (w : World) :
    Calls Try.prog 16 #[.int .i64 n] w fun e w' => e = .returned (.int .i64 (clp n)) ∧ w = w' := by
  go_enter Try.func16, Try.ntmps16
  go_wp2
  all_goals
    go_ret
    exact ⟨ret_int (by unfold clp; omega), rfl⟩

set_option maxHeartbeats 400000 in
theorem rbeyond_any (n : Int) (w : World) :
    Calls Try.prog 17 #[.int .i64 n] w fun e w' => e = .returned (.bool (beyB n)) ∧ w = w' := by
  go_enter Try.func17, Try.ntmps17
  go_wp2_with (go_at_call 16; refine (rclip_any _ _).mono ?_; rintro e w' ⟨rfl, rfl⟩)
  go_ret
  exact ⟨rfl, rfl⟩

set_option maxHeartbeats 400000 in
theorem astore_any (b : Bool) (blk : Nat) (x : Int) (w : World) (hc : w.cell? ⟨blk, 0, none⟩ = some (.int .u32 x)) (hf : w.frozen? ⟨blk, 0, none⟩ = false) :
    Calls Try.prog 52 #[.pointer (some ⟨blk, 0, none⟩), .bool b] w fun e w' => e = .returned (.tuple #[]) ∧ w' = (w.setCell ⟨blk, 0, none⟩ (.int .u32 (if b then 1 else 0))).drew := by
  have hst : ∀ y : Int, _ := fun y => run_call_store (P := Try.prog) Try.func62 (by kernel_rfl) (by kernel_rfl) (by kernel_rfl) (by kernel_rfl) (k := .u32) (y := y) (w := w.drew) (a := ⟨blk, 0, none⟩) (u := .int .u32 x) hc hf
  cases b
  all_goals
    go_enter Try.func52, Try.ntmps52
    go_wp2_with fail
    go_region_calls
    go_end0
    exact ⟨rfl, rfl⟩

set_option maxHeartbeats 400000 in
theorem aload_any (blk : Nat) (x : Int) (w : World) (hc : w.cell? ⟨blk, 0, none⟩ = some (.int .u32 x)) :
    Calls Try.prog 51 #[.pointer (some ⟨blk, 0, none⟩)] w fun e w' => e = .returned (.bool (x != 0)) ∧ w = w' := by
  have hl := run_call_load (P := Try.prog) Try.func61 (by kernel_rfl) (by kernel_rfl) (by kernel_rfl) .u32 (by kernel_rfl) hc
  go_enter Try.func51, Try.ntmps51
  go_wp2
  go_ret
  exact ⟨rfl, rfl⟩

/-- A Unit at block blk: its flag reads x. -/
def UnitAt (blk : Nat) (x : Int) (w : World) : Prop := w.cell? ⟨blk, 0, none⟩ = some (.int .u32 x) ∧ w.frozen? ⟨blk, 0, none⟩ = false

theorem UnitAt.only {blk b : Nat} {x : Int} {w w' : World} (h : UnitAt blk x w) (o : Only b w w') (hb : blk ≠ b) : UnitAt blk x w' :=
  ⟨(o.cell (p := ⟨blk, 0, none⟩) hb).trans h.1, (o.frozen (p := ⟨blk, 0, none⟩) hb).trans h.2⟩

theorem UnitAt.lt {blk : Nat} {x : Int} {w : World} (h : UnitAt blk x w) : blk < w.heap.size := by
  by_cases hb : blk < w.heap.size
  · exact hb
  · have := h.1
    simp [World.cell?, hb] at this

set_option maxHeartbeats 400000 in
theorem put_any (blk : Nat) (x n : Int) (w : World) (h : UnitAt blk x w) :
    Calls Try.prog 26 #[.pointer (some ⟨blk, 0, none⟩), .int .i64 n] w fun e w' => e = .returned (.int .i64 (clp n)) ∧ UnitAt blk (bey n x) w' ∧ Only blk w w' := by
  have hb : bey n x = if beyB n then 1 else x := rfl
  rw [hb]; clear hb
  obtain ⟨hc, hf⟩ := h
  cases hy : beyB n
  · go_enter Try.func26, Try.ntmps26
    go_wp2_with (go_at_call 15; refine (clip_any _ _).mono ?_; rintro e w' ⟨rfl, rfl⟩; rw [hy])
    go_ret
    exact ⟨rfl, ⟨hc, hf⟩, Only.refl _ _⟩
  · go_enter Try.func26, Try.ntmps26
    go_wp2_with (first | (go_at_call 15; refine (clip_any _ _).mono ?_; rintro e w' ⟨rfl, rfl⟩; rw [hy]) | (go_at_call 52; refine (astore_any _ _ x _ hc hf).mono ?_; rintro e w' ⟨rfl, rfl⟩))
    go_ret
    refine ⟨rfl, ⟨?_, ?_⟩, ?_⟩
    · exact World.cell?_setCell_same w _ _ hc
    · simpa using hf
    · exact ((Only.refl blk w).setCell (p := ⟨blk, 0, none⟩) _).drew

set_option maxHeartbeats 400000 in
theorem put_nil (n : Int) (w : World) :
    Calls Try.prog 26 #[.pointer none, .int .i64 n] w fun e w' => e = .returned (.int .i64 (clp n)) ∧ w = w' := by
  cases hy : beyB n
  all_goals
    go_enter Try.func26, Try.ntmps26
    go_wp2_with (go_at_call 15; refine (clip_any _ _).mono ?_; rintro e w' ⟨rfl, rfl⟩; rw [hy])
    go_ret
    exact ⟨rfl, rfl⟩

set_option maxHeartbeats 400000 in
theorem add_any (blk : Nat) (x a b : Int) (w : World) (h : UnitAt blk x w) :
    Calls Try.prog 19 #[.pointer (some ⟨blk, 0, none⟩), .int .i64 a, .int .i64 b] w fun e w' => e = .returned (.int .i64 (clp (clp a + clp b))) ∧ UnitAt blk (bey (clp a + clp b) (bey b (bey a x))) w' ∧ Only blk w w' := by
  have ba := clp_bd a
  have bb := clp_bd b
  go_enter Try.func19, Try.ntmps19
  go_wp2_with fail
  refine (put_any _ x _ _ h).mono ?_
  rintro e w1 ⟨rfl, h1, o1⟩
  go_wp2_with fail
  refine (put_any _ _ _ _ h1).mono ?_
  rintro e w2 ⟨rfl, h2, o2⟩
  go_wp2_with fail
  refine (put_any _ _ _ _ h2).mono ?_
  rintro e w3 ⟨rfl, h3, o3⟩
  go_wp2
  go_ret
  exact ⟨rfl, h3, (o1.trans o2).trans o3⟩

set_option maxHeartbeats 400000 in
theorem sub_any (blk : Nat) (x a b : Int) (w : World) (h : UnitAt blk x w) :
    Calls Try.prog 21 #[.pointer (some ⟨blk, 0, none⟩), .int .i64 a, .int .i64 b] w fun e w' => e = .returned (.int .i64 (clp (clp a - clp b))) ∧ UnitAt blk (bey (clp a - clp b) (bey b (bey a x))) w' ∧ Only blk w w' := by
  have ba := clp_bd a
  have bb := clp_bd b
  go_enter Try.func21, Try.ntmps21
  go_wp2_with fail
  refine (put_any _ x _ _ h).mono ?_
  rintro e w1 ⟨rfl, h1, o1⟩
  go_wp2_with fail
  refine (put_any _ _ _ _ h1).mono ?_
  rintro e w2 ⟨rfl, h2, o2⟩
  go_wp2_with fail
  refine (put_any _ _ _ _ h2).mono ?_
  rintro e w3 ⟨rfl, h3, o3⟩
  go_wp2
  go_ret
  exact ⟨rfl, h3, (o1.trans o2).trans o3⟩

set_option maxHeartbeats 400000 in
theorem over_any (blk : Nat) (x : Int) (w : World) (h : UnitAt blk x w) :
    Calls Try.prog 20 #[.pointer (some ⟨blk, 0, none⟩)] w fun e w' => e = .returned (.bool (x != 0)) ∧ w = w' := by
  go_enter Try.func20, Try.ntmps20
  go_wp2_with (go_at_call 51; refine (aload_any _ _ _ h.1).mono ?_; rintro e w' ⟨rfl, rfl⟩)
  go_ret
  exact ⟨rfl, rfl⟩

set_option maxHeartbeats 400000 in
theorem lives01 (w : World) : Calls Try.prog 18 #[] w fun e w' => e = .returned (.bool true) ∧ Below w.heap.size w w' := by
  have hu : UnitAt w.heap.size 0 (w.alloc (.cells #[.int .u32 0] 33)) := ⟨by simp, by simp⟩
  go_enter Try.func18, Try.ntmps18
  go_wp2_with fail
  refine (add_any _ _ _ _ _ hu).mono ?_
  have e1 : clp (clp 1099511627775 + clp 1) = 1099511627775 := by decide
  have e2 : bey (clp 1099511627775 + clp 1) (bey 1 (bey 1099511627775 0)) = 1 := by decide
  rw [e1, e2]
  clear e1 e2
  rintro e w1 ⟨rfl, h1, o1⟩
  go_wp2_with (go_at_call 20; refine (over_any _ _ _ h1).mono ?_; rintro e w' ⟨rfl, rfl⟩)
  go_ret
  exact ⟨rfl, ((Below.refl _ _).alloc (Nat.le_refl _) _).trans (o1.below (Nat.le_refl _))⟩

set_option maxHeartbeats 400000 in
theorem law_SatClips (n : Int) (w : World) : Calls Try.prog 3 #[.int .i64 n] w fun e w' => e = .returned (.bool true) ∧ Below w.heap.size w w' := by
  go_enter Try.func3, Try.ntmps3
  go_wp2_with (first | (go_at_call 15; refine (clip_any _ _).mono ?_; rintro e w' ⟨rfl, rfl⟩) | (go_at_call 16; refine (rclip_any _ _).mono ?_; rintro e w' ⟨rfl, rfl⟩) | (go_at_call 17; refine (rbeyond_any _ _).mono ?_; rintro e w' ⟨rfl, rfl⟩) | (go_at_call 18; refine (lives01 _).mono ?_; rintro e w' ⟨rfl, hb⟩))
  go_ret
  exact ⟨rfl, hb⟩
end Go.Proofs.Ytdpiamgglfejbaa
