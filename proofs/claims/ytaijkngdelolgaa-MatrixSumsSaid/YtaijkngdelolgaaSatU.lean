/- Contracts of package sat and of the document's answers for it, but for sums of rows (Sat without them: Dig names its own sm). -/
import Derived.Test.YtaijkngdelolgaaBase
namespace Go.Proofs.Ytaijkngdelolgaa
open Go.ChangeShapes Go.WideShapes Go.ChangeAt Go.RowKit
set_option linter.unusedVariables false

def clp (n : Int) : Int := if n < -1099511627775 then -1099511627775 else if 1099511627775 < n then 1099511627775 else n
def beyB (n : Int) : Bool := clp n != n
def b2i (o : Bool) : Int := if o then 1 else 0
theorem b2i_ne (o : Bool) : (b2i o != 0) = o := by cases o <;> rfl
theorem clp_clp (n : Int) : clp (clp n) = clp n := by unfold clp; omega
theorem beyB_clp (n : Int) : beyB (clp n) = false := by simp [beyB, clp_clp]
theorem clp_bd (n : Int) : -1099511627775 ≤ clp n ∧ clp n ≤ 1099511627775 := by unfold clp; omega

set_option maxHeartbeats 400000 in
theorem clip_any (n : Int) (w : World) :
    Calls Try.prog 74 #[.int .i64 n] w fun e w' => e = .returned (.tuple #[.int .i64 (clp n), .bool (beyB n)]) ∧ w = w' := by
  go_enter Try.func74, Try.ntmps74
  go_wp2
  all_goals
    go_ret2
    refine ⟨?_, rfl⟩
    refine ret_ib ?_ ?_
    · unfold clp; omega
    · unfold beyB
      rw [Bool.eq_iff_iff]; simp [clp]; omega

set_option maxHeartbeats 400000 in
theorem rclip_any (n : Int) (w : World) :
    Calls Try.prog 36 #[.int .i64 n] w fun e w' => e = .returned (.int .i64 (clp n)) ∧ w = w' := by
  go_enter Try.func36, Try.ntmps36
  go_wp2
  all_goals
    go_ret
    exact ⟨ret_int (by unfold clp; omega), rfl⟩

set_option maxHeartbeats 400000 in
theorem astore_any (b : Bool) (blk : Nat) (x : Int) (w : World) (hc : w.cell? ⟨blk, 0, none⟩ = some (.int .u32 x)) (hf : w.frozen? ⟨blk, 0, none⟩ = false) :
    Calls Try.prog 75 #[.pointer (some ⟨blk, 0, none⟩), .bool b] w fun e w' => e = .returned (.tuple #[]) ∧ w' = (w.setCell ⟨blk, 0, none⟩ (.int .u32 (if b then 1 else 0))).drew := by
  have hst : ∀ y : Int, _ := fun y => run_call_store (P := Try.prog) Try.func80 (by kernel_rfl) (by kernel_rfl) (by kernel_rfl) (by kernel_rfl) (k := .u32) (y := y) (w := w.drew) (a := ⟨blk, 0, none⟩) (u := .int .u32 x) hc hf
  cases b
  all_goals
    go_enter Try.func75, Try.ntmps75
    go_wp2_with fail
    go_region_calls
    go_end0
    exact ⟨rfl, rfl⟩

/-- A Unit at block blk: was anything beyond the bounds? -/
def UnitAt (blk : Nat) (o : Bool) (w : World) : Prop := w.cell? ⟨blk, 0, none⟩ = some (.int .u32 (b2i o)) ∧ w.frozen? ⟨blk, 0, none⟩ = false

theorem UnitAt.only {blk b : Nat} {o : Bool} {w w' : World} (h : UnitAt blk o w) (k : Only b w w') (hb : blk ≠ b) : UnitAt blk o w' :=
  ⟨(k.cell (p := ⟨blk, 0, none⟩) hb).trans h.1, (k.frozen (p := ⟨blk, 0, none⟩) hb).trans h.2⟩

theorem UnitAt.new (w : World) : UnitAt w.heap.size false (w.alloc (.cells #[.int .u32 0] 101)) := ⟨by simp [b2i], by simp⟩
theorem UnitAt.alloc {blk : Nat} {o : Bool} {w : World} (h : UnitAt blk o w) (x : Obj) : UnitAt blk o (w.alloc x) := by
  have hl := cell_lt h.1
  exact ⟨(World.cell?_alloc_past _ _ _ hl).trans h.1, ((Below.refl w.heap.size w).alloc (Nat.le_refl _) x).frozen (p := ⟨blk, 0, none⟩) hl ▸ h.2⟩

set_option maxHeartbeats 400000 in
theorem put_any (blk : Nat) (o : Bool) (n : Int) (w : World) (h : UnitAt blk o w) :
    Calls Try.prog 67 #[.pointer (some ⟨blk, 0, none⟩), .int .i64 n] w fun e w' => e = .returned (.int .i64 (clp n)) ∧ UnitAt blk (o || beyB n) w' ∧ Only blk w w' := by
  obtain ⟨hc, hf⟩ := h
  cases hy : beyB n
  · rw [Bool.or_false]
    go_enter Try.func67, Try.ntmps67
    go_wp2_with (go_at_call 74; refine (clip_any _ _).mono ?_; rintro e w' ⟨rfl, rfl⟩; rw [hy])
    go_ret
    exact ⟨rfl, ⟨hc, hf⟩, Only.refl _ _⟩
  · rw [Bool.or_true]
    go_enter Try.func67, Try.ntmps67
    go_wp2_with (first | (go_at_call 74; refine (clip_any _ _).mono ?_; rintro e w' ⟨rfl, rfl⟩; rw [hy]) | (go_at_call 75; refine (astore_any _ _ _ _ hc hf).mono ?_; rintro e w' ⟨rfl, rfl⟩))
    go_ret
    refine ⟨rfl, ⟨?_, ?_⟩, ?_⟩
    · exact World.cell?_setCell_same w _ _ hc
    · simpa using hf
    · exact ((Only.refl blk w).setCell (p := ⟨blk, 0, none⟩) _).drew

set_option maxHeartbeats 400000 in
theorem put_nil (n : Int) (w : World) :
    Calls Try.prog 67 #[.pointer none, .int .i64 n] w fun e w' => e = .returned (.int .i64 (clp n)) ∧ w = w' := by
  cases hy : beyB n
  all_goals
    go_enter Try.func67, Try.ntmps67
    go_wp2_with (go_at_call 74; refine (clip_any _ _).mono ?_; rintro e w' ⟨rfl, rfl⟩; rw [hy])
    go_ret
    exact ⟨rfl, rfl⟩

set_option maxHeartbeats 400000 in
theorem add_any (blk : Nat) (o : Bool) (a b : Int) (w : World) (h : UnitAt blk o w) :
    Calls Try.prog 53 #[.pointer (some ⟨blk, 0, none⟩), .int .i64 a, .int .i64 b] w fun e w' => e = .returned (.int .i64 (clp (clp a + clp b))) ∧ UnitAt blk (o || beyB a || beyB b || beyB (clp a + clp b)) w' ∧ Only blk w w' := by
  have ba := clp_bd a
  have bb := clp_bd b
  go_enter Try.func53, Try.ntmps53
  go_wp2_with fail
  refine (put_any _ o _ _ h).mono ?_
  rintro e w1 ⟨rfl, h1, o1⟩
  go_wp2_with fail
  refine (put_any _ _ _ _ h1).mono ?_
  rintro e w2 ⟨rfl, h2, o2⟩
  go_wp2_with fail
  refine (put_any _ _ _ _ h2).mono ?_
  rintro e w3 ⟨rfl, h3, o3⟩
  go_wp2
  go_ret
  exact ⟨rfl, h3, (o1.trans o2).trans o3⟩

set_option maxHeartbeats 400000 in
theorem add_nil (a b : Int) (w : World) :
    Calls Try.prog 53 #[.pointer none, .int .i64 a, .int .i64 b] w fun e w' => e = .returned (.int .i64 (clp (clp a + clp b))) ∧ w = w' := by
  have ba := clp_bd a
  have bb := clp_bd b
  go_enter Try.func53, Try.ntmps53
  go_wp2_with (go_at_call 67; refine (put_nil _ _).mono ?_; rintro e w' ⟨rfl, rfl⟩)
  go_ret
  exact ⟨rfl, rfl⟩

set_option maxHeartbeats 400000 in
theorem sub_any (blk : Nat) (o : Bool) (a b : Int) (w : World) (h : UnitAt blk o w) :
    Calls Try.prog 55 #[.pointer (some ⟨blk, 0, none⟩), .int .i64 a, .int .i64 b] w fun e w' => e = .returned (.int .i64 (clp (clp a - clp b))) ∧ UnitAt blk (o || beyB a || beyB b || beyB (clp a - clp b)) w' ∧ Only blk w w' := by
  have ba := clp_bd a
  have bb := clp_bd b
  go_enter Try.func55, Try.ntmps55
  go_wp2_with fail
  refine (put_any _ o _ _ h).mono ?_
  rintro e w1 ⟨rfl, h1, o1⟩
  go_wp2_with fail
  refine (put_any _ _ _ _ h1).mono ?_
  rintro e w2 ⟨rfl, h2, o2⟩
  go_wp2_with fail
  refine (put_any _ _ _ _ h2).mono ?_
  rintro e w3 ⟨rfl, h3, o3⟩
  go_wp2
  go_ret
  exact ⟨rfl, h3, (o1.trans o2).trans o3⟩

set_option maxHeartbeats 400000 in
theorem sub_nil (a b : Int) (w : World) :
    Calls Try.prog 55 #[.pointer none, .int .i64 a, .int .i64 b] w fun e w' => e = .returned (.int .i64 (clp (clp a - clp b))) ∧ w = w' := by
  have ba := clp_bd a
  have bb := clp_bd b
  go_enter Try.func55, Try.ntmps55
  go_wp2_with (go_at_call 67; refine (put_nil _ _).mono ?_; rintro e w' ⟨rfl, rfl⟩)
  go_ret
  exact ⟨rfl, rfl⟩

def absI (n : Int) : Int := if n < 0 then -n else n

set_option maxHeartbeats 400000 in
theorem rabs_any (a : Int) (w : World) (h : -1099511627775 ≤ a ∧ a ≤ 1099511627775) :
    Calls Try.prog 22 #[.int .i64 a] w fun e w' => e = .returned (.int .i64 (absI a)) ∧ w = w' := by
  obtain ⟨h1, h2⟩ := h
  go_enter Try.func22, Try.ntmps22
  go_wp2
  all_goals
    go_ret
    exact ⟨ret_int (by unfold absI; omega), rfl⟩

end Go.Proofs.Ytaijkngdelolgaa
