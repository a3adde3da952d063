/- Package bite: the law's example; walked. -/
import Derived.Test.YtecpmffmmiogfabBite7
namespace Go.Proofs.Ytecpmffmmiogfab
open Go.ChangeShapes Go.WideShapes Go.ChangeAt Go.RowKit
set_option linter.unusedVariables false
set_option linter.unusedSimpArgs false
def nmL : Nat → ByteArray := fun _ => ⟨#[97]⟩
def jL : Nat → Nat → Int := fun _ j => if j = 3 then 5 else if j = 5 then 2 else if j = 6 then 9 else 0
theorem rtL : rtB 1 nmL jL = true := by
  have h1 : lowB ⟨#[97]⟩ = true := decide_eq_true (fun i hi => by
    have : i < 1 := hi
    obtain rfl : i = 0 := by omega
    exact (by decide : 97 ≤ (97 : UInt8).toNat ∧ (97 : UInt8).toNat ≤ 122))
  refine rtB_good (by decide) (by decide) (fun i hi => okB_good ?_ ?_)
  · show tsB ⟨#[97]⟩ _ _ _ _ _ _ = true
    unfold tsB namB
    rw [h1]
    rfl
  · obtain rfl : i = 0 := by omega
    rfl
theorem jokL : JOk 1 nmL jL := rtB_j rtL
def s1L : BrSt := ⟨0, 1, 1, s0.RS⟩
theorem s1L_is : brStep 1 jL 1 s0 = s1L := rfl
def s2L : BrSt := brEnd s1L 2
theorem s2L_is : brStep 1 jL 2 s1L = s2L := rfl
theorem i1L : BrI 1 jL s1L := s1L_is ▸ brStep_ok 1 (s0_ok jokL) jokL
theorem i2L : BrI 1 jL s2L := s2L_is ▸ brStep_ok 2 i1L jokL
theorem st1L (p q tb tc : Nat) (w : World) (h : BrR p q tb tc 1 nmL jL s0 w) : Calls Try.prog 12 #[.pointer (some ⟨p, 0, none⟩), .int .i64 1] w fun e w' => e = .returned (.bool true) ∧ BrR p q tb tc 1 nmL jL s1L w' ∧ Bes2 p q w w' :=
  bstep p q tb tc 1 nmL jL s0 w h (s0_ok jokL) jokL 1
theorem st2L (p q tb tc : Nat) (w : World) (h : BrR p q tb tc 1 nmL jL s1L w) : Calls Try.prog 12 #[.pointer (some ⟨p, 0, none⟩), .int .i64 2] w fun e w' => e = .returned (.bool true) ∧ BrR p q tb tc 1 nmL jL s2L w' ∧ Bes2 p q w w' :=
  bstep p q tb tc 1 nmL jL s1L w h i1L jokL 2
theorem dn1L (p q tb tc : Nat) (w : World) (h : BrR p q tb tc 1 nmL jL s1L w) : Calls Try.prog 14 #[.pointer (some ⟨p, 0, none⟩)] w fun e w' => e = .returned (.bool false) ∧ w' = w := bdone p q tb tc 1 nmL jL s1L w h i1L jokL
theorem dn2L (p q tb tc : Nat) (w : World) (h : BrR p q tb tc 1 nmL jL s2L w) : Calls Try.prog 14 #[.pointer (some ⟨p, 0, none⟩)] w fun e w' => e = .returned (.bool true) ∧ w' = w := bdone p q tb tc 1 nmL jL s2L w h i2L jokL
theorem tx2L_is : txB nmL s2L.RS 1 = ⟨#[97, 32, 112, 97, 115, 115, 101, 100, 10]⟩ := by decide
theorem tx2L (p q tb tc : Nat) (w : World) (h : BrR p q tb tc 1 nmL jL s2L w) : Calls Try.prog 15 #[.pointer (some ⟨p, 0, none⟩)] w fun e w' => e = .returned (.string ⟨#[97, 32, 112, 97, 115, 115, 101, 100, 10]⟩) ∧ Below w.heap.size w w' := by
  have := btext p q tb tc 1 nmL jL s2L.cur s2L.c s2L.g s2L.RS w h jokL
  rw [tx2L_is] at this
  exact this
set_option maxRecDepth 100000 in
set_option maxHeartbeats 8000000 in
theorem lives48 (w : World) : Calls Try.prog 8 #[] w fun e w' => e = .returned (.bool true) ∧ Below w.heap.size w w' := by
  obtain ⟨W0, eW, hb0, hz, hh⟩ := bt_box w ⟨#[97]⟩ 0 0 5 0 2 9
  have hB : Bts W0 (some ⟨w.heap.size, 0, none⟩) 1 nmL jL := by
    refine .inr ⟨w.heap.size, 0, rfl, hh.lt, fun i hi => ?_⟩
    obtain rfl : i = 0 := by omega
    exact ⟨(hh.one 0 rfl).1, (hh.one 1 rfl).1, (hh.one 2 rfl).1, (hh.one 3 rfl).1, (hh.one 4 rfl).1, (hh.one 5 rfl).1, (hh.one 6 rfl).1⟩
  have NW := Lib.hid (bnew_ok w.heap.size 0 1 1 nmL jL W0 hB (by decide) rtL (fun i hi => by show (1 : Nat) ≤ maxLen; unfold maxLen; omega))
  replace eW := Lib.hid eW
  replace hb0 := Lib.hid hb0
  clear hB hh hz
  go_enter Try.func8, Try.ntmps8
  go_wp2_with fail
  rw [← eW.out]
  refine NW.out.mono ?_
  rintro e w1 ⟨p, q, tb, tc, rfl, hK⟩
  have hs0 := hb0.out.size
  have hbw := Lib.hid (hb0.out.trans (hK.b.mono hs0))
  have hp := Lib.hid (show w.heap.size ≤ p from Nat.le_trans hs0 hK.p)
  have hq := Lib.hid (show w.heap.size ≤ q from Nat.le_trans hs0 hK.q)
  have hr := Lib.hid hK.r
  clear hK NW eW hs0
  go_wp2_with fail
  refine (st1L p q tb tc _ hr.out).mono ?_
  rintro e w2 ⟨rfl, r2, b2⟩
  have c2 := Lib.hid (hbw.out.trans (b2.below hp.out hq.out hbw.out.size))
  replace r2 := Lib.hid r2
  clear b2 hr
  go_wp2_with fail
  refine (dn1L p q tb tc _ r2.out).mono ?_
  rintro e w3 ⟨rfl, hw⟩
  subst w3
  go_wp2_with fail
  refine (st2L p q tb tc _ r2.out).mono ?_
  rintro e w4 ⟨rfl, r4, b4⟩
  have c4 := Lib.hid (c2.out.trans (b4.below hp.out hq.out c2.out.size))
  replace r4 := Lib.hid r4
  clear b4 r2
  go_wp2_with fail
  refine (dn2L p q tb tc _ r4.out).mono ?_
  rintro e w5 ⟨rfl, hw⟩
  subst w5
  go_wp2_with fail
  refine (tx2L p q tb tc _ r4.out).mono ?_
  rintro e w6 ⟨rfl, b6⟩
  have c6 := Lib.hid (c4.out.trans (b6.mono c4.out.size))
  clear b6
  go_wp2
  go_ret
  exact ⟨rfl, c6.out⟩
end Go.Proofs.Ytecpmffmmiogfab
