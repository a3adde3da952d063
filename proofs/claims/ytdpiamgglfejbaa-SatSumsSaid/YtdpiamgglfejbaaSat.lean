/- Contracts of package sat and of the document's answers for it. -/
import Derived.Test.YtdpiamgglfejbaaBase
namespace Go.Proofs.Ytdpiamgglfejbaa
open Go.ChangeShapes Go.WideShapes Go.ChangeAt Go.RowKit
set_option linter.unusedVariables false

def clp (n : Int) : Int := if n < -1099511627775 then -1099511627775 else if 1099511627775 < n then 1099511627775 else n
def beyB (n : Int) : Bool := clp n != n
def b2i (o : Bool) : Int := if o then 1 else 0
theorem b2i_ne (o : Bool) : (b2i o != 0) = o := by cases o <;> rfl
theorem clp_clp (n : Int) : clp (clp n) = clp n := by unfold clp; omega
theorem beyB_clp (n : Int) : beyB (clp n) = false := by simp [beyB, clp_clp]
theorem clp_bd (n : Int) : -1099511627775 ≤ clp n ∧ clp n ≤ 1099511627775 := by unfold clp; omega

set_option maxHeartbeats 400000 in
theorem clip_any (n : Int) (w : World) :
    Calls Try.prog 15 #[.int .i64 n] w fun e w' => e = .returned (.tuple #[.int .i64 (clp n), .bool (beyB n)]) ∧ w = w' := by
  go_enter Try.func15, Try.ntmps15
  go_wp2
  all_goals
    go_ret2
    refine ⟨?_, rfl⟩
    refine ret_ib ?_ ?_
    · unfold clp; omega
    · unfold beyB
      rw [Bool.eq_iff_iff]; simp [clp]; omega

set_option maxHeartbeats 400000 in
theorem rclip_any (n : Int) (w : World) :
    Calls Try.prog 16 #[.int .i64 n] w fun e w' => e = .returned (.int .i64 (clp n)) ∧ w = w' := by
  go_enter Try.func16, Try.ntmps16
  go_wp2
  all_goals
    go_ret
    exact ⟨ret_int (by unfold clp; omega), rfl⟩

set_option maxHeartbeats 400000 in
theorem rbeyond_any (n : Int) (w : World) :
    Calls Try.prog 17 #[.int .i64 n] w fun e w' => e = .returned (.bool (beyB n)) ∧ w = w' := by
  go_enter Try.func17, Try.ntmps17
  go_wp2_with (go_at_call 16; refine (rclip_any _ _).mono ?_; rintro e w' ⟨rfl, rfl⟩)
  go_ret
  exact ⟨rfl, rfl⟩

set_option maxHeartbeats 400000 in
theorem astore_any (b : Bool) (blk : Nat) (x : Int) (w : World) (hc : w.cell? ⟨blk, 0, none⟩ = some (.int .u32 x)) (hf : w.frozen? ⟨blk, 0, none⟩ = false) :
    Calls Try.prog 52 #[.pointer (some ⟨blk, 0, none⟩), .bool b] w fun e w' => e = .returned (.tuple #[]) ∧ w' = (w.setCell ⟨blk, 0, none⟩ (.int .u32 (if b then 1 else 0))).drew := by
  have hst : ∀ y : Int, _ := fun y => run_call_store (P := Try.prog) Try.func62 (by kernel_rfl) (by kernel_rfl) (by kernel_rfl) (by kernel_rfl) (k := .u32) (y := y) (w := w.drew) (a := ⟨blk, 0, none⟩) (u := .int .u32 x) hc hf
  cases b
  all_goals
    go_enter Try.func52, Try.ntmps52
    go_wp2_with fail
    go_region_calls
    go_end0
    exact ⟨rfl, rfl⟩

set_option maxHeartbeats 400000 in
theorem aload_any (blk : Nat) (x : Int) (w : World) (hc : w.cell? ⟨blk, 0, none⟩ = some (.int .u32 x)) :
    Calls Try.prog 51 #[.pointer (some ⟨blk, 0, none⟩)] w fun e w' => e = .returned (.bool (x != 0)) ∧ w = w' := by
  have hl := run_call_load (P := Try.prog) Try.func61 (by kernel_rfl) (by kernel_rfl) (by kernel_rfl) .u32 (by kernel_rfl) hc
  go_enter Try.func51, Try.ntmps51
  go_wp2
  go_ret
  exact ⟨rfl, rfl⟩

/-- A Unit at block blk: was anything beyond the bounds? -/
def UnitAt (blk : Nat) (o : Bool) (w : World) : Prop := w.cell? ⟨blk, 0, none⟩ = some (.int .u32 (b2i o)) ∧ w.frozen? ⟨blk, 0, none⟩ = false

theorem UnitAt.only {blk b : Nat} {o : Bool} {w w' : World} (h : UnitAt blk o w) (k : Only b w w') (hb : blk ≠ b) : UnitAt blk o w' :=
  ⟨(k.cell (p := ⟨blk, 0, none⟩) hb).trans h.1, (k.frozen (p := ⟨blk, 0, none⟩) hb).trans h.2⟩

theorem UnitAt.new (w : World) : UnitAt w.heap.size false (w.alloc (.cells #[.int .u32 0] 33)) := ⟨by simp [b2i], by simp⟩
theorem UnitAt.alloc {blk : Nat} {o : Bool} {w : World} (h : UnitAt blk o w) (x : Obj) : UnitAt blk o (w.alloc x) := by
  have hl := cell_lt h.1
  exact ⟨(World.cell?_alloc_past _ _ _ hl).trans h.1, ((Below.refl w.heap.size w).alloc (Nat.le_refl _) x).frozen (p := ⟨blk, 0, none⟩) hl ▸ h.2⟩

set_option maxHeartbeats 400000 in
theorem put_any (blk : Nat) (o : Bool) (n : Int) (w : World) (h : UnitAt blk o w) :
    Calls Try.prog 26 #[.pointer (some ⟨blk, 0, none⟩), .int .i64 n] w fun e w' => e = .returned (.int .i64 (clp n)) ∧ UnitAt blk (o || beyB n) w' ∧ Only blk w w' := by
  obtain ⟨hc, hf⟩ := h
  cases hy : beyB n
  · rw [Bool.or_false]
    go_enter Try.func26, Try.ntmps26
    go_wp2_with (go_at_call 15; refine (clip_any _ _).mono ?_; rintro e w' ⟨rfl, rfl⟩; rw [hy])
    go_ret
    exact ⟨rfl, ⟨hc, hf⟩, Only.refl _ _⟩
  · rw [Bool.or_true]
    go_enter Try.func26, Try.ntmps26
    go_wp2_with (first | (go_at_call 15; refine (clip_any _ _).mono ?_; rintro e w' ⟨rfl, rfl⟩; rw [hy]) | (go_at_call 52; refine (astore_any _ _ _ _ hc hf).mono ?_; rintro e w' ⟨rfl, rfl⟩))
    go_ret
    refine ⟨rfl, ⟨?_, ?_⟩, ?_⟩
    · exact World.cell?_setCell_same w _ _ hc
    · simpa using hf
    · exact ((Only.refl blk w).setCell (p := ⟨blk, 0, none⟩) _).drew

set_option maxHeartbeats 400000 in
theorem put_nil (n : Int) (w : World) :
    Calls Try.prog 26 #[.pointer none, .int .i64 n] w fun e w' => e = .returned (.int .i64 (clp n)) ∧ w = w' := by
  cases hy : beyB n
  all_goals
    go_enter Try.func26, Try.ntmps26
    go_wp2_with (go_at_call 15; refine (clip_any _ _).mono ?_; rintro e w' ⟨rfl, rfl⟩; rw [hy])
    go_ret
    exact ⟨rfl, rfl⟩

set_option maxHeartbeats 400000 in
theorem add_any (blk : Nat) (o : Bool) (a b : Int) (w : World) (h : UnitAt blk o w) :
    Calls Try.prog 19 #[.pointer (some ⟨blk, 0, none⟩), .int .i64 a, .int .i64 b] w fun e w' => e = .returned (.int .i64 (clp (clp a + clp b))) ∧ UnitAt blk (o || beyB a || beyB b || beyB (clp a + clp b)) w' ∧ Only blk w w' := by
  have ba := clp_bd a
  have bb := clp_bd b
  go_enter Try.func19, Try.ntmps19
  go_wp2_with fail
  refine (put_any _ o _ _ h).mono ?_
  rintro e w1 ⟨rfl, h1, o1⟩
  go_wp2_with fail
  refine (put_any _ _ _ _ h1).mono ?_
  rintro e w2 ⟨rfl, h2, o2⟩
  go_wp2_with fail
  refine (put_any _ _ _ _ h2).mono ?_
  rintro e w3 ⟨rfl, h3, o3⟩
  go_wp2
  go_ret
  exact ⟨rfl, h3, (o1.trans o2).trans o3⟩

set_option maxHeartbeats 400000 in
theorem add_nil (a b : Int) (w : World) :
    Calls Try.prog 19 #[.pointer none, .int .i64 a, .int .i64 b] w fun e w' => e = .returned (.int .i64 (clp (clp a + clp b))) ∧ w = w' := by
  have ba := clp_bd a
  have bb := clp_bd b
  go_enter Try.func19, Try.ntmps19
  go_wp2_with (go_at_call 26; refine (put_nil _ _).mono ?_; rintro e w' ⟨rfl, rfl⟩)
  go_ret
  exact ⟨rfl, rfl⟩

set_option maxHeartbeats 400000 in
theorem sub_any (blk : Nat) (o : Bool) (a b : Int) (w : World) (h : UnitAt blk o w) :
    Calls Try.prog 21 #[.pointer (some ⟨blk, 0, none⟩), .int .i64 a, .int .i64 b] w fun e w' => e = .returned (.int .i64 (clp (clp a - clp b))) ∧ UnitAt blk (o || beyB a || beyB b || beyB (clp a - clp b)) w' ∧ Only blk w w' := by
  have ba := clp_bd a
  have bb := clp_bd b
  go_enter Try.func21, Try.ntmps21
  go_wp2_with fail
  refine (put_any _ o _ _ h).mono ?_
  rintro e w1 ⟨rfl, h1, o1⟩
  go_wp2_with fail
  refine (put_any _ _ _ _ h1).mono ?_
  rintro e w2 ⟨rfl, h2, o2⟩
  go_wp2_with fail
  refine (put_any _ _ _ _ h2).mono ?_
  rintro e w3 ⟨rfl, h3, o3⟩
  go_wp2
  go_ret
  exact ⟨rfl, h3, (o1.trans o2).trans o3⟩

set_option maxHeartbeats 400000 in
theorem sub_nil (a b : Int) (w : World) :
    Calls Try.prog 21 #[.pointer none, .int .i64 a, .int .i64 b] w fun e w' => e = .returned (.int .i64 (clp (clp a - clp b))) ∧ w = w' := by
  have ba := clp_bd a
  have bb := clp_bd b
  go_enter Try.func21, Try.ntmps21
  go_wp2_with (go_at_call 26; refine (put_nil _ _).mono ?_; rintro e w' ⟨rfl, rfl⟩)
  go_ret
  exact ⟨rfl, rfl⟩

set_option maxHeartbeats 400000 in
theorem neg_any (blk : Nat) (o : Bool) (a : Int) (w : World) (h : UnitAt blk o w) :
    Calls Try.prog 22 #[.pointer (some ⟨blk, 0, none⟩), .int .i64 a] w fun e w' => e = .returned (.int .i64 (-clp a)) ∧ UnitAt blk (o || beyB a) w' ∧ Only blk w w' := by
  have ba := clp_bd a
  go_enter Try.func22, Try.ntmps22
  go_wp2_with fail
  refine (put_any _ o _ _ h).mono ?_
  rintro e w1 ⟨rfl, h1, o1⟩
  go_wp2
  go_ret
  exact ⟨rfl, h1, o1⟩

def absI (n : Int) : Int := if n < 0 then -n else n

set_option maxHeartbeats 400000 in
theorem abs_any (blk : Nat) (o : Bool) (a : Int) (w : World) (h : UnitAt blk o w) :
    Calls Try.prog 23 #[.pointer (some ⟨blk, 0, none⟩), .int .i64 a] w fun e w' => e = .returned (.int .i64 (absI (clp a))) ∧ UnitAt blk (o || beyB a) w' ∧ Only blk w w' := by
  have ba := clp_bd a
  go_enter Try.func23, Try.ntmps23
  go_wp2_with fail
  refine (put_any _ o _ _ h).mono ?_
  rintro e w1 ⟨rfl, h1, o1⟩
  go_wp2
  all_goals
    go_ret
    exact ⟨ret_int (by unfold absI; omega), h1, o1⟩

set_option maxHeartbeats 400000 in
theorem rabs_any (a : Int) (w : World) (h : -1099511627775 ≤ a ∧ a ≤ 1099511627775) :
    Calls Try.prog 24 #[.int .i64 a] w fun e w' => e = .returned (.int .i64 (absI a)) ∧ w = w' := by
  obtain ⟨h1, h2⟩ := h
  go_enter Try.func24, Try.ntmps24
  go_wp2
  all_goals
    go_ret
    exact ⟨ret_int (by unfold absI; omega), rfl⟩

set_option maxHeartbeats 400000 in
theorem over_any (blk : Nat) (o : Bool) (w : World) (h : UnitAt blk o w) :
    Calls Try.prog 20 #[.pointer (some ⟨blk, 0, none⟩)] w fun e w' => e = .returned (.bool o) ∧ w = w' := by
  go_enter Try.func20, Try.ntmps20
  go_wp2_with (go_at_call 51; refine (aload_any _ _ _ h.1).mono ?_; rintro e w' ⟨rfl, rfl⟩; rw [b2i_ne])
  go_ret
  exact ⟨rfl, rfl⟩

set_option maxHeartbeats 400000 in
theorem over_nil (w : World) :
    Calls Try.prog 20 #[.pointer none] w fun e w' => e = .returned (.bool false) ∧ w = w' := by
  go_enter Try.func20, Try.ntmps20
  go_wp2
  go_ret
  exact ⟨rfl, rfl⟩

set_option maxHeartbeats 400000 in
theorem clear_any (blk : Nat) (o : Bool) (w : World) (h : UnitAt blk o w) :
    Calls Try.prog 25 #[.pointer (some ⟨blk, 0, none⟩)] w fun e w' => e = .returned (.tuple #[]) ∧ UnitAt blk false w' ∧ Only blk w w' := by
  obtain ⟨hc, hf⟩ := h
  go_enter Try.func25, Try.ntmps25
  go_wp2_with (go_at_call 52; refine (astore_any _ _ _ _ hc hf).mono ?_; rintro e w' ⟨rfl, rfl⟩)
  go_end0
  refine ⟨rfl, ⟨?_, ?_⟩, ?_⟩
  · exact World.cell?_setCell_same w _ _ hc
  · simpa using hf
  · exact ((Only.refl blk w).setCell (p := ⟨blk, 0, none⟩) _).drew

set_option maxHeartbeats 400000 in
theorem clear_nil (w : World) :
    Calls Try.prog 25 #[.pointer none] w fun e w' => e = .returned (.tuple #[]) ∧ w = w' := by
  go_enter Try.func25, Try.ntmps25
  go_wp2
  go_end0
  exact ⟨rfl, rfl⟩

/-- The sum of numbers, each added behind the other, and whether anything was beyond. -/
def smF (s : Int × Bool) (n : Int) : Int × Bool := (clp (s.1 + clp n), s.2 || beyB n || beyB (s.1 + clp n))
def sm (o : Bool) (l : List Int) : Int × Bool := l.foldl smF (0, o)
theorem sm_snoc (o : Bool) (l : List Int) (n : Int) : sm o (l ++ [n]) = smF (sm o l) n := by simp [sm]
theorem sm_clp (o : Bool) (l : List Int) : clp (sm o l).1 = (sm o l).1 := by
  rcases List.eq_nil_or_concat l with rfl | ⟨m, n, rfl⟩
  · simp [sm, clp]
  · rw [List.concat_eq_append, sm_snoc]; simp [smF, clp_clp]
theorem sm_bey (o : Bool) (l : List Int) : beyB (sm o l).1 = false := by unfold beyB; rw [sm_clp]; simp

set_option maxHeartbeats 400000 in
theorem sum_any (blk : Nat) (o : Bool) (a : Option Addr) (cap : Nat) (l : List Int) (w : World) (h : UnitAt blk o w) (hr : RowIs .i64 w a l) (hne : ∀ b off, a = some ⟨b, off, none⟩ → 0 < l.length → b ≠ blk) (hl : l.length ≤ maxLen) :
    Calls Try.prog 27 #[.pointer (some ⟨blk, 0, none⟩), .slice a l.length cap] w fun e w' => e = .returned (.int .i64 (sm o l).1) ∧ UnitAt blk (sm o l).2 w' ∧ Only blk w w' := by
  unfold maxLen at hl
  go_enter Try.func27, Try.ntmps27
  go_wp2
  go_loopw [5, 10] (fun s i v => ∃ k : Nat, k ≤ l.length ∧ i = .int .i64 k ∧ s = .int .i64 (sm o (l.take k)).1 ∧ UnitAt blk (sm o (l.take k)).2 v ∧ Only blk w v) (fun _ i _ => l.length - (intOf i).toNat)
  case atStart => exact ⟨0, Nat.zero_le _, rfl, rfl, h, Only.refl _ _⟩
  case round =>

    obtain ⟨k, hk, rfl, rfl, hu, ho⟩ := hrel
    by_cases hlt : k < l.length
    · obtain ⟨b, off, rfl, hb, hcell⟩ := hr.at hlt
      · have hc : wr.cell? ⟨b, off + k, none⟩ = some (.int .i64 (l.getD k 0)) := (ho.cell (p := ⟨b, off + k, none⟩) (hne b off rfl (by omega))).trans hcell
        have HS : Hid (sm o (l.take (k + 1)) = smF (sm o (l.take k)) (l.getD k 0)) := by rw [take_snoc hlt]; exact sm_snoc _ _ _
        have HC := Lib.hid (sm_clp o (l.take k))
        have HB := Lib.hid (sm_bey o (l.take k))
        clear hcell hne hr
        generalize l.getD k 0 = x at hc HS
        go_wp2_with fail
        refine (add_any _ _ _ _ _ hu).mono ?_
        rintro e w1 ⟨rfl, h1, o1⟩
        rw [HC.out, HB.out] at h1
        rw [HC.out]
        go_wp2
        go_roundw
        case rel => exact ⟨k + 1, by omega, by go_num, by rw [HS.out]; rfl, by rw [HS.out]; simpa [smF] using h1, ho.trans o1⟩
        case measure => simp [intOf]; omega
    · have hk' : k = l.length := by omega
      have HT : Hid (l.take k = l) := by rw [hk']; exact List.take_length
      clear hk'
      go_wp2
      go_ret
      rw [HT.out] at hu
      exact ⟨ret_int (by rw [HT.out]), hu, ho⟩

set_option maxHeartbeats 400000 in
theorem lives01 (w : World) : Calls Try.prog 18 #[] w fun e w' => e = .returned (.bool true) ∧ Below w.heap.size w w' := by
  have hu : UnitAt w.heap.size false (w.alloc (.cells #[.int .u32 0] 33)) := ⟨by simp [b2i], by simp⟩
  go_enter Try.func18, Try.ntmps18
  go_wp2_with fail
  refine (add_any _ _ _ _ _ hu).mono ?_
  have e1 : clp (clp 1099511627775 + clp 1) = 1099511627775 := by decide
  have e2 : (false || beyB 1099511627775 || beyB 1 || beyB (clp 1099511627775 + clp 1)) = true := by decide
  rw [e1, e2]
  clear e1 e2
  rintro e w1 ⟨rfl, h1, o1⟩
  go_wp2_with (go_at_call 20; refine (over_any _ _ _ h1).mono ?_; rintro e w' ⟨rfl, rfl⟩)
  go_ret
  exact ⟨rfl, ((Below.refl _ _).alloc (Nat.le_refl _) _).trans (o1.below (Nat.le_refl _))⟩

set_option maxHeartbeats 400000 in
theorem law_SatClips (n : Int) (w : World) : Calls Try.prog 3 #[.int .i64 n] w fun e w' => e = .returned (.bool true) ∧ Below w.heap.size w w' := by
  go_enter Try.func3, Try.ntmps3
  go_wp2_with (first | (go_at_call 15; refine (clip_any _ _).mono ?_; rintro e w' ⟨rfl, rfl⟩) | (go_at_call 16; refine (rclip_any _ _).mono ?_; rintro e w' ⟨rfl, rfl⟩) | (go_at_call 17; refine (rbeyond_any _ _).mono ?_; rintro e w' ⟨rfl, rfl⟩) | (go_at_call 18; refine (lives01 _).mono ?_; rintro e w' ⟨rfl, hb⟩))
  go_ret
  exact ⟨rfl, hb⟩
end Go.Proofs.Ytdpiamgglfejbaa
