/- The worst of the differences; walked. -/
import Derived.Test.YticecjjlafmclaaTrend9
import Derived.Deep.Cut
namespace Go.Proofs.Yticecjjlafmclaa
open Go.ChangeShapes Go.WideShapes Go.ChangeAt Go.RowKit
set_option linter.unusedVariables false
set_option linter.unusedSimpArgs false

/-- The greatest of the first numbers. -/
def mxN (L : List Int) : Nat → Int
  | 0 => L.getD 0 0
  | k + 1 => max (mxN L k) (L.getD k 0)
set_option maxRecDepth 100000 in
set_option maxHeartbeats 8000000 in
theorem smax (ao : Option Addr) (cap : Nat) (L : List Int) (w : World) (hr : RowIs .i64 w ao L) (h1 : 1 ≤ L.length) (h64 : L.length ≤ 100) : Calls Try.prog 42 #[.slice ao L.length cap] w fun e w' => e = .returned (.int .i64 (mxN L L.length)) ∧ w = w' := by
  obtain ⟨g0, o0, rfl, -, c0⟩ := hr.at (show 0 < L.length by omega)
  rw [Nat.add_zero] at c0
  have RW := Lib.hid hr
  have n1 : 1 ≤ (L.length : Int) := by omega
  have n1' : ¬ (L.length : Int) < 1 := by omega
  have n0 : (0 : Int) < (L.length : Int) := by omega
  have n0' : 0 < L.length := by omega
  have n64 := Lib.hid h64
  obtain ⟨z0, ez⟩ : ∃ z0, z0 = L.getD 0 0 := ⟨_, rfl⟩
  rw [← ez] at c0
  have st := Lib.hid (show Value.int .i64 z0 = .int .i64 (mxN L 1) from by rw [ez]; show _ = Value.int .i64 (max (L.getD 0 0) (L.getD 0 0)); rw [Int.max_self])
  replace ez := Lib.hid ez
  clear hr h64
  go_enter Try.func42, Try.ntmps42
  go_wp2_with fail
  go_loopw [3, 4] (fun m i v => ∃ k : Nat, 1 ≤ k ∧ k ≤ L.length ∧ m = .int .i64 (mxN L k) ∧ i = .int .i64 (k : Int) ∧ w = v) (fun _ i _ => L.length - (intOf i).toNat)
  case atStart => exact ⟨1, by omega, by omega, st.out, rfl, rfl⟩
  case round =>
    obtain ⟨k, hk1, hk, rfl, rfl, rfl⟩ := hrel
    clear c0
    by_cases hlt : k < L.length
    · obtain ⟨g, off, e9, -, hc⟩ := RW.out.at hlt
      injection e9 with e9
      injection e9 with e9 e10
      subst e9 e10
      have k1 : (k : Int) < (L.length : Int) := by omega
      have k0 : (0 : Int) ≤ (k : Int) := by omega
      have k64 : (k : Int) ≤ 100 := by have := n64.out; omega
      have e1 := Lib.hid (show mxN L (k + 1) = max (mxN L k) (L.getD k 0) from rfl)
      generalize mxN L k = y at *
      generalize L.getD k 0 = z at *
      obtain ⟨M, eM⟩ : ∃ M, M = max y z := ⟨_, rfl⟩
      have e2 := e1.out
      rw [← eM] at e2
      replace e2 := Lib.hid e2
      have r1 : (if y < z then z else y) = M := by rw [eM]; omega
      replace eM := Lib.hid eM
      clear e1
      go_wp2
      go_roundw
      case rel => exact ⟨k + 1, by omega, by omega, by rw [e2.out], by go_num, by first | rfl | trivial⟩
      case measure => simp [intOf]; omega
    · have hge : (L.length : Int) ≤ (k : Int) := by omega
      obtain rfl : k = L.length := by omega
      clear hge
      go_wp2
      go_ret
      exact ⟨rfl, rfl⟩
set_option maxRecDepth 100000 in
set_option maxHeartbeats 8000000 in
theorem trworst {B b : Nat} {sz : Int} {L : List Int} (w : World) (hT : Tr B b sz L w) (h2 : 2 ≤ L.length) : Calls Try.prog 22 #[.pointer (some ⟨b, 0, none⟩)] w fun e w' => e = .returned (.tuple #[.int .i64 (mxN (dfN (trM L) (trS L) L L.length) L.length), .bool true]) ∧ Below w.heap.size w w' := by
  have h64 : L.length ≤ 64 := by have := hT.len; have := hT.s2; omega
  have LI := Lib.hid (trline w hT h2)
  have DF := Lib.hid (fun (p0 p1 p2 : Nat) u (k : Below w.heap.size w u) (q : LnC w.heap.size p0 p1 p2 (trM L) (trS L) (L.length : Int) u) => trdiff p0 p1 p2 u (hT.bel k) h2 q)
  have SM := Lib.hid (fun ao cap u (hr : RowIs .i64 u ao (dfN (trM L) (trS L) L L.length)) => smax ao cap (dfN (trM L) (trS L) L L.length) u hr (by rw [dfN_len]; omega) (by rw [dfN_len]; omega))
  have hln := Lib.hid (dfN_len (trM L) (trS L) L L.length)
  clear hT h64
  go_enter Try.func22, Try.ntmps22
  go_wp2_with fail
  refine LI.out.mono ?_
  rintro e w1 ⟨p0, p1, p2, rfl, hq, hb1⟩
  go_wp2_with fail
  refine (DF.out _ _ _ _ hb1 hq).mono ?_
  rintro e w2 ⟨x', rfl, hO2, hb2⟩
  have hb3 := Lib.hid (hb1.trans (hb2.mono hb1.size))
  obtain ⟨ao, cp, rfl, hr, -⟩ := hO2.row
  have SX := SM.out ao cp _ hr
  rw [hln.out] at SX ⊢
  replace SX := Lib.hid SX
  clear hq hb1 hb2 hO2 hr
  go_wp2_with fail
  refine SX.out.mono ?_
  rintro e w4 ⟨rfl, rfl⟩
  go_wp2
  go_ret2
  exact ⟨rfl, hb3.out⟩
end Go.Proofs.Yticecjjlafmclaa
