/- The laws SatSums, SatMany and SatWithin, walked. -/
import Derived.Test.YtdpiamgglfejbaaSat
namespace Go.Proofs.Ytdpiamgglfejbaa
open Go.ChangeShapes Go.WideShapes Go.ChangeAt Go.RowKit
set_option linter.unusedVariables false

set_option maxHeartbeats 1000000 in
theorem law_SatSums (a b : Int) (w : World) : Calls Try.prog 4 #[.int .i64 a, .int .i64 b] w fun e w' => e = .returned (.bool true) ∧ Below w.heap.size w w' := by
  have ba := clp_bd a
  have bb := clp_bd b
  cases ya : beyB a
  all_goals
    cases yb : beyB b
    all_goals
      go_enter Try.func4, Try.ntmps4
      go_wp2_with (first | (go_at_call 16; refine (rclip_any _ _).mono ?_; rintro e w' ⟨rfl, rfl⟩) | (go_at_call 17; refine (rbeyond_any _ _).mono ?_; rintro e w' ⟨rfl, rfl⟩))
      have hu : UnitAt w.heap.size false ((((w.alloc (.cells #[.int .u32 0] 33)).alloc (.cells #[.int .u32 0] 33)).alloc (.cells #[.int .u32 0] 33)).alloc (.cells #[.int .u32 0] 33)) := (((UnitAt.new w).alloc _).alloc _).alloc _
      have hv : UnitAt (w.heap.size + 1) false ((((w.alloc (.cells #[.int .u32 0] 33)).alloc (.cells #[.int .u32 0] 33)).alloc (.cells #[.int .u32 0] 33)).alloc (.cells #[.int .u32 0] 33)) := by have h := (((UnitAt.new (w.alloc (.cells #[.int .u32 0] 33))).alloc (.cells #[.int .u32 0] 33)).alloc (.cells #[.int .u32 0] 33)); simpa using h
      have hx : UnitAt (w.heap.size + 1 + 1) false ((((w.alloc (.cells #[.int .u32 0] 33)).alloc (.cells #[.int .u32 0] 33)).alloc (.cells #[.int .u32 0] 33)).alloc (.cells #[.int .u32 0] 33)) := by have h := ((UnitAt.new ((w.alloc (.cells #[.int .u32 0] 33)).alloc (.cells #[.int .u32 0] 33))).alloc (.cells #[.int .u32 0] 33)); simpa using h
      have hz : UnitAt (w.heap.size + 1 + 1 + 1) false ((((w.alloc (.cells #[.int .u32 0] 33)).alloc (.cells #[.int .u32 0] 33)).alloc (.cells #[.int .u32 0] 33)).alloc (.cells #[.int .u32 0] 33)) := by have h := (UnitAt.new (((w.alloc (.cells #[.int .u32 0] 33)).alloc (.cells #[.int .u32 0] 33)).alloc (.cells #[.int .u32 0] 33))); simpa using h
      have hb : Below w.heap.size w ((((w.alloc (.cells #[.int .u32 0] 33)).alloc (.cells #[.int .u32 0] 33)).alloc (.cells #[.int .u32 0] 33)).alloc (.cells #[.int .u32 0] 33)) :=
        ((((Below.refl _ _).alloc (Nat.le_refl _) _).alloc (by simp) _).alloc (by simp; omega) _).alloc (by simp; omega) _
      generalize ((((w.alloc (.cells #[.int .u32 0] 33)).alloc (.cells #[.int .u32 0] 33)).alloc (.cells #[.int .u32 0] 33)).alloc (.cells #[.int .u32 0] 33)) = v at hu hv hx hz hb ⊢
      refine (add_any _ _ _ _ _ hu).mono ?_
      rintro e w1 ⟨rfl, hu, o1⟩
      have hv := hv.only o1 (by omega)
      have hx := hx.only o1 (by omega)
      have hz := hz.only o1 (by omega)
      rw [ya, yb] at hu
      go_wp2_with (first | (go_at_call 16; refine (rclip_any _ _).mono ?_; rintro e w' ⟨rfl, rfl⟩) | (go_at_call 17; refine (rbeyond_any _ _).mono ?_; rintro e w' ⟨rfl, rfl⟩) | (go_at_call 20; refine (over_any _ _ _ hu).mono ?_; rintro e w' ⟨rfl, rfl⟩))
      refine (sub_any _ _ _ _ _ hv).mono ?_
      rintro e w2 ⟨rfl, hv, o2⟩
      have hx := hx.only o2 (by omega)
      have hz := hz.only o2 (by omega)
      rw [ya, yb] at hv
      go_wp2_with (first | (go_at_call 16; refine (rclip_any _ _).mono ?_; rintro e w' ⟨rfl, rfl⟩) | (go_at_call 17; refine (rbeyond_any _ _).mono ?_; rintro e w' ⟨rfl, rfl⟩) | (go_at_call 20; refine (over_any _ _ _ hv).mono ?_; rintro e w' ⟨rfl, rfl⟩))
      refine (neg_any _ _ _ _ hx).mono ?_
      rintro e w3 ⟨rfl, hx, o3⟩
      have hz := hz.only o3 (by omega)
      go_wp2_with fail
      refine (abs_any _ _ _ _ hz).mono ?_
      rintro e w4 ⟨rfl, hz, o4⟩
      have hx := hx.only o4 (by omega)
      rw [ya] at hx hz
      have hbel : Below w.heap.size w w4 := (((hb.trans (o1.below (by omega))).trans (o2.below (by omega))).trans (o3.below (by omega))).trans (o4.below (by omega))
      clear hb o1 o2 o3 o4 hu hv
      go_wp2_with fail
      refine (rabs_any _ _ ba).mono ?_
      rintro e w' ⟨rfl, rfl⟩
      go_wp2_with (first | (go_at_call 17; refine (rbeyond_any _ _).mono ?_; rintro e w' ⟨rfl, rfl⟩) | (go_at_call 20; with_reducible refine (over_any _ _ _ hx).mono ?_; rintro e w' ⟨rfl, rfl⟩) | (go_at_call 20; with_reducible refine (over_any _ _ _ hz).mono ?_; rintro e w' ⟨rfl, rfl⟩))
      refine (clear_nil _).mono ?_
      rintro e w' ⟨rfl, rfl⟩
      go_wp2_with (first | (go_at_call 16; refine (rclip_any _ _).mono ?_; rintro e w' ⟨rfl, rfl⟩) | (go_at_call 19; refine (add_nil _ _ _).mono ?_; rintro e w' ⟨rfl, rfl⟩) | (go_at_call 21; refine (sub_nil _ _ _).mono ?_; rintro e w' ⟨rfl, rfl⟩) | (go_at_call 26; refine (put_nil _ _).mono ?_; rintro e w' ⟨rfl, rfl⟩) | (go_at_call 20; refine (over_nil _).mono ?_; rintro e w' ⟨rfl, rfl⟩) | (go_at_call 18; refine (lives01 _).mono ?_; rintro e w5 ⟨rfl, hlv⟩))
      go_ret
      exact ⟨rfl, hbel.trans (hlv.mono hbel.size)⟩

set_option maxHeartbeats 1000000 in
theorem law_SatMany (a : Option Addr) (cap : Nat) (l : List Int) (w : World) (hr : RowIs .i64 w a l) (hl : l.length ≤ maxLen) :
    Calls Try.prog 5 #[.slice a l.length cap] w fun e w' => e = .returned (.bool true) ∧ Below w.heap.size w w' := by
  have hl' := hl
  unfold maxLen at hl
  by_cases hbig : 200 < l.length
  · go_enter Try.func5, Try.ntmps5
    go_wp2_with (go_at_call 18; refine (lives01 _).mono ?_; rintro e w5 ⟨rfl, hlv⟩)
    go_ret
    exact ⟨rfl, hlv⟩
  · go_enter Try.func5, Try.ntmps5
    go_wp2
    go_loop [3, 4, 5] (fun s o i => ∃ k : Nat, k ≤ l.length ∧ i = .int .i64 k ∧ s = .int .i64 (sm false (l.take k)).1 ∧ o = .bool (sm false (l.take k)).2) (fun _ _ i => l.length - (intOf i).toNat)
    case atStart => exact ⟨0, Nat.zero_le _, rfl, rfl, rfl⟩
    case round =>
      obtain ⟨k, hk, rfl, rfl, rfl⟩ := hrel
      by_cases hlt : k < l.length
      · obtain ⟨b, off, rfl, hb, hc⟩ := hr.at hlt
        have HS : Hid (sm false (l.take (k + 1)) = smF (sm false (l.take k)) (l.getD k 0)) := by rw [take_snoc hlt]; exact sm_snoc _ _ _
        have hbd := clp_bd (sm false (l.take k)).1
        rw [sm_clp] at hbd
        generalize l.getD k 0 = x at hc HS
        have hbx := clp_bd x
        clear hr
        generalize sm false (l.take k) = s at HS hbd ⊢
        obtain ⟨s, o⟩ := s
        cases o
        all_goals
          cases hy : beyB x
          all_goals
            go_wp2_with (first | (go_at_call 16; refine (rclip_any _ _).mono ?_; rintro e w' ⟨rfl, rfl⟩) | (go_at_call 17; refine (rbeyond_any _ _).mono ?_; rintro e w' ⟨rfl, rfl⟩))
            go_round
            case rel => exact ⟨k + 1, by omega, by go_num, by rw [HS.out]; rfl, by rw [HS.out]; simp [smF, hy]⟩
            case measure => simp [intOf]; omega
      · have hk' : k = l.length := by omega
        have HT : Hid (l.take k = l) := by rw [hk']; exact List.take_length
        clear hk'
        rw [HT.out]
        go_wp2_with fail
        have hu := UnitAt.new w
        have hr := hr.below ((Below.refl w.heap.size w).alloc (Nat.le_refl _) (.cells #[.int .u32 0] 33))
        refine (sum_any _ _ _ _ l _ hu hr (fun b off h h0 => ?_) hl').mono ?_
        · obtain ⟨b', off', rfl, hb', _⟩ := RowIs.at ‹RowIs _ w _ _› h0
          simp at h
          omega
        rintro e w1 ⟨rfl, h1, o1⟩
        clear HT
        generalize sm false l = s at h1 ⊢
        obtain ⟨s, o⟩ := s
        go_wp2_with (go_at_call 20; refine (over_any _ _ _ h1).mono ?_; rintro e w' ⟨rfl, rfl⟩)
        refine (clear_any _ _ _ h1).mono ?_
        rintro e w2 ⟨rfl, h2, o2⟩
        have hbel : Below w.heap.size w w2 := (((Below.refl w.heap.size w).alloc (Nat.le_refl _) (.cells #[.int .u32 0] 33)).trans (o1.below (Nat.le_refl _))).trans (o2.below (Nat.le_refl _))
        go_wp2_with (first | (go_at_call 20; refine (over_any _ _ _ h2).mono ?_; rintro e w' ⟨rfl, rfl⟩) | (go_at_call 18; refine (lives01 _).mono ?_; rintro e w5 ⟨rfl, hlv⟩))
        go_ret
        exact ⟨rfl, hbel.trans (hlv.mono hbel.size)⟩

def inB (n : Int) : Prop := -274877906943 ≤ n ∧ n ≤ 274877906943

theorem within_small (a b c : Int) (ha : inB a) (hb : inB b) (hc : inB c) : sm false [a, b, c] = (a + b + c, false) ∧ clp (clp a - clp b) = a - b ∧ beyB a = false ∧ beyB b = false ∧ beyB (clp a - clp b) = false := by
  unfold inB at *
  have e1 : clp a = a := by unfold clp; omega
  have e2 : clp b = b := by unfold clp; omega
  have e3 : clp c = c := by unfold clp; omega
  have e4 : clp (a + b) = a + b := by unfold clp; omega
  have e5 : clp (a + b + c) = a + b + c := by unfold clp; omega
  have e6 : clp (a - b) = a - b := by unfold clp; omega
  simp [sm, smF, beyB, e1, e2, e3, e4, e5, e6]

theorem sm_bd (o : Bool) (l : List Int) : -1099511627775 ≤ (sm o l).1 ∧ (sm o l).1 ≤ 1099511627775 := by
  have := clp_bd (sm o l).1
  rwa [sm_clp] at this

set_option maxHeartbeats 1000000 in
theorem law_SatWithin (a b c : Int) (w : World) : Calls Try.prog 6 #[.int .i64 a, .int .i64 b, .int .i64 c] w fun e w' => e = .returned (.bool true) ∧ Below w.heap.size w w' := by
  have hsb := sm_bd false [a, b, c]
  have hdb := clp_bd (clp a - clp b)
  have HW := Lib.hid (within_small a b c)
  go_enter Try.func6, Try.ntmps6
  go_wp2_with fail
  have hu : ∀ t, UnitAt w.heap.size false ((w.alloc (.cells #[.int .u32 0] 33)).alloc (.cells #[.int .i64 a, .int .i64 b, .int .i64 c] t)) := fun t => (UnitAt.new w).alloc _
  have hr : ∀ t, RowIs .i64 ((w.alloc (.cells #[.int .u32 0] 33)).alloc (.cells #[.int .i64 a, .int .i64 b, .int .i64 c] t)) (some ⟨w.heap.size + 1, 0, none⟩) [a, b, c] := fun t => by
    refine .inr ⟨_, 0, rfl, by simp, fun i hi => ?_⟩
    match i, hi with
    | 0, _ => simp
    | 1, _ => simp
    | 2, _ => simp
  have hb0 : ∀ t, Below w.heap.size w ((w.alloc (.cells #[.int .u32 0] 33)).alloc (.cells #[.int .i64 a, .int .i64 b, .int .i64 c] t)) := fun t => ((Below.refl _ _).alloc (Nat.le_refl _) _).alloc (by simp) _
  have hz0 : ∀ t, ((w.alloc (.cells #[.int .u32 0] 33)).alloc (.cells #[.int .i64 a, .int .i64 b, .int .i64 c] t)).heap.size = w.heap.size + 2 := fun t => by simp
  refine (sum_any _ _ _ 3 [a, b, c] _ (hu _) (hr _) (fun b off h _ => by simp at h; omega) (by unfold maxLen; simp)).mono ?_
  rintro e w1 ⟨rfl, h1, o1⟩
  go_wp2_with fail
  refine (sub_any _ _ _ _ _ h1).mono ?_
  rintro e w2 ⟨rfl, h2, o2⟩
  have hbel : Below w.heap.size w w2 := ((hb0 _).trans (o1.below (Nat.le_refl _))).trans (o2.below (Nat.le_refl _))
  have hz2 := o2.size.trans (o1.size.trans (hz0 _))
  clear hr hu hb0 hz0 o1 o2 h1
  by_cases hsm : inB a ∧ inB b ∧ inB c
  · obtain ⟨e1, e2, e3, e4, e5⟩ := HW.out hsm.1 hsm.2.1 hsm.2.2
    rw [e1, e3, e4, e5] at h2
    rw [e1, e2]
    rw [e1] at hsb
    rw [e2] at hdb
    clear e1 e2 e3 e4 e5 HW
    obtain ⟨⟨a1, a2⟩, ⟨b1, b2⟩, ⟨c1, c2⟩⟩ := hsm
    go_wp2_with (go_at_call 20; refine (over_any _ _ _ h2).mono ?_; rintro e w' ⟨rfl, rfl⟩)
    all_goals
      have hv : UnitAt (w.heap.size + 2) false ((w2.alloc (.cells #[.int .u32 0] 33)).alloc (.cells #[.int .u32 0] 33)) := by have h := (UnitAt.new w2).alloc (.cells #[.int .u32 0] 33); rwa [hz2] at h
      have hx : UnitAt (w.heap.size + 2 + 1) false ((w2.alloc (.cells #[.int .u32 0] 33)).alloc (.cells #[.int .u32 0] 33)) := by have h := UnitAt.new (w2.alloc (.cells #[.int .u32 0] 33)); simpa [hz2] using h
      have hb3 : Below w.heap.size w ((w2.alloc (.cells #[.int .u32 0] 33)).alloc (.cells #[.int .u32 0] 33)) := (hbel.alloc (by omega) _).alloc (by simp; omega) _
      clear hsb hdb hbel
      refine (add_any _ _ _ _ _ hv).mono ?_
      rintro e w3 ⟨rfl, hv, o3⟩
      have hx := hx.only o3 (by omega)
      have hcm : (false || beyB b || beyB a || beyB (clp b + clp a)) = (false || beyB a || beyB b || beyB (clp a + clp b)) := by rw [Int.add_comm (clp b)]; cases beyB a <;> cases beyB b <;> rfl
      have HC := Lib.hid hcm
      clear hcm
      go_wp2_with fail
      refine (add_any _ _ _ _ _ hx).mono ?_
      rintro e w4 ⟨rfl, hx, o4⟩
      rw [HC.out] at hx
      rw [Int.add_comm (clp b)]
      have hv := hv.only o4 (by omega)
      have hb4 : Below w.heap.size w w4 := (hb3.trans (o3.below (by omega))).trans (o4.below (by omega))
      clear hb3 o3 o4 h2 hz2
      generalize (false || beyB a || beyB b || beyB (clp a + clp b)) = o at hv hx
      go_wp2_with (first | (go_at_call 20; with_reducible refine (over_any _ _ _ hv).mono ?_; rintro e w' ⟨rfl, rfl⟩) | (go_at_call 20; with_reducible refine (over_any _ _ _ hx).mono ?_; rintro e w' ⟨rfl, rfl⟩) | (go_at_call 18; refine (lives01 _).mono ?_; rintro e w5 ⟨rfl, hlv⟩))
      go_ret
      exact ⟨rfl, hb4.trans (hlv.mono hb4.size)⟩
  · clear HW
    unfold inB at hsm
    go_wp2_with fail
    all_goals
      have hv : UnitAt (w.heap.size + 2) false ((w2.alloc (.cells #[.int .u32 0] 33)).alloc (.cells #[.int .u32 0] 33)) := by have h := (UnitAt.new w2).alloc (.cells #[.int .u32 0] 33); rwa [hz2] at h
      have hx : UnitAt (w.heap.size + 2 + 1) false ((w2.alloc (.cells #[.int .u32 0] 33)).alloc (.cells #[.int .u32 0] 33)) := by have h := UnitAt.new (w2.alloc (.cells #[.int .u32 0] 33)); simpa [hz2] using h
      have hb3 : Below w.heap.size w ((w2.alloc (.cells #[.int .u32 0] 33)).alloc (.cells #[.int .u32 0] 33)) := (hbel.alloc (by omega) _).alloc (by simp; omega) _
      clear hsb hdb hbel
      refine (add_any _ _ _ _ _ hv).mono ?_
      rintro e w3 ⟨rfl, hv, o3⟩
      have hx := hx.only o3 (by omega)
      have hcm : (false || beyB b || beyB a || beyB (clp b + clp a)) = (false || beyB a || beyB b || beyB (clp a + clp b)) := by rw [Int.add_comm (clp b)]; cases beyB a <;> cases beyB b <;> rfl
      have HC := Lib.hid hcm
      clear hcm
      go_wp2_with fail
      refine (add_any _ _ _ _ _ hx).mono ?_
      rintro e w4 ⟨rfl, hx, o4⟩
      rw [HC.out] at hx
      rw [Int.add_comm (clp b)]
      have hv := hv.only o4 (by omega)
      have hb4 : Below w.heap.size w w4 := (hb3.trans (o3.below (by omega))).trans (o4.below (by omega))
      clear hb3 o3 o4 h2 hz2
      generalize (false || beyB a || beyB b || beyB (clp a + clp b)) = o at hv hx
      go_wp2_with (first | (go_at_call 20; with_reducible refine (over_any _ _ _ hv).mono ?_; rintro e w' ⟨rfl, rfl⟩) | (go_at_call 20; with_reducible refine (over_any _ _ _ hx).mono ?_; rintro e w' ⟨rfl, rfl⟩) | (go_at_call 18; refine (lives01 _).mono ?_; rintro e w5 ⟨rfl, hlv⟩))
      go_ret
      exact ⟨rfl, hb4.trans (hlv.mono hb4.size)⟩
end Go.Proofs.Ytdpiamgglfejbaa
