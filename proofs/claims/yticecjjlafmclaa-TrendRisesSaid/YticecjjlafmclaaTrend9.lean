/- How far the values are from the line; walked. -/
import Derived.Test.YticecjjlafmclaaTrend7
import Derived.Deep.Cut
namespace Go.Proofs.Yticecjjlafmclaa
open Go.ChangeShapes Go.WideShapes Go.ChangeAt Go.RowKit
set_option linter.unusedVariables false
set_option linter.unusedSimpArgs false

theorem lnV_bd {m s n x : Int} (hx : -1000 ≤ x ∧ x ≤ 1000) (hm : -100000000 ≤ m ∧ m ≤ 100000000) (hs : -1300000000000000 ≤ s ∧ s ≤ 1300000000000000) (hn : 2 ≤ n ∧ n ≤ 64) : -1400000000000000 ≤ lnV m s n x ∧ lnV m s n x ≤ 1400000000000000 := by
  unfold lnV
  have hK : -2063 ≤ 2 * x - n + 1 ∧ 2 * x - n + 1 ≤ 2063 := by omega
  generalize 2 * x - n + 1 = K at *
  have h := Int.natAbs_mul s K
  have h1 : s.natAbs ≤ 1300000000000000 := by omega
  have h2 : K.natAbs ≤ 2063 := by omega
  have h3 := Nat.mul_le_mul h1 h2
  generalize s * K = Z at *
  have hD := Int.ediv_lt_iff_lt_mul (a := Z) (b := 1350000000000001) (show (0 : Int) < 2000 by decide)
  have hE := Int.le_ediv_iff_mul_le (a := -1350000000000000) (b := Z) (show (0 : Int) < 2000 by decide)
  omega
/-- How far a value is from the line. -/
def dfV (m s : Int) (L : List Int) (i : Nat) : Int := if L.getD i 0 - lnV m s (L.length : Int) (i : Int) < 0 then -(L.getD i 0 - lnV m s (L.length : Int) (i : Int)) else L.getD i 0 - lnV m s (L.length : Int) (i : Int)
def dfN (m s : Int) (L : List Int) (k : Nat) : List Int := (List.range k).map (dfV m s L)
theorem dfN_len (m s : Int) (L : List Int) (k : Nat) : (dfN m s L k).length = k := by simp [dfN]
theorem dfN_succ (m s : Int) (L : List Int) (k : Nat) : dfN m s L (k + 1) = dfN m s L k ++ [dfV m s L k] := by simp [dfN, List.range_succ]
theorem dfN_at (m s : Int) (L : List Int) {k i : Nat} (h : i < k) : (dfN m s L k).getD i 0 = dfV m s L i := by simp [dfN, List.getD, h]
set_option maxRecDepth 100000 in
set_option maxHeartbeats 8000000 in
theorem trdiff {B B2 b : Nat} {sz : Int} {L : List Int} (p0 p1 p2 : Nat) (w : World) (hT : Tr B b sz L w) (h2 : 2 ≤ L.length) (q : LnC B2 p0 p1 p2 (trM L) (trS L) (L.length : Int) w) : Calls Try.prog 43 #[.pointer (some ⟨b, 0, none⟩), .func (.func 50) #[] #[.pointer (some ⟨p0, 0, none⟩), .pointer (some ⟨p1, 0, none⟩), .pointer (some ⟨p2, 0, none⟩)]] w fun e w' => ∃ x', e = .returned x' ∧ Ow w.heap.size x' (dfN (trM L) (trS L) L L.length) w' ∧ Below w.heap.size w w' := by
  have n64 : (L.length : Int) ≤ 64 := by have := hT.len; have := hT.s2; omega
  have n2 : 2 ≤ (L.length : Int) := by omega
  have hS := trS_bd hT.bd h2 (by omega)
  have hM := trM_bd hT.bd h2 (by omega)
  have BD := Lib.hid hT.bd
  obtain ⟨xt, hh, ho, hn⟩ := hT.ex
  obtain ⟨ao, cap, rfl, hr, -⟩ := ho.row
  have c1 := hh.c 1 _ rfl
  obtain ⟨m, em⟩ : ∃ m, m = trM L := ⟨_, rfl⟩
  obtain ⟨s, es⟩ : ∃ s, s = trS L := ⟨_, rfl⟩
  rw [← em] at q hM ⊢
  rw [← es] at q hS ⊢
  have CL := Lib.hid (fun (x : Int) u (k : Below w.heap.size w u) (hx : -1000 ≤ x ∧ x ≤ 1000) => trclo p0 p1 p2 x m s (L.length : Int) u (q.bel k).q0 (q.bel k).q1 (q.bel k).q2 hx hM hS ⟨n2, n64⟩)
  have LB := Lib.hid (fun (x : Int) (hx : -1000 ≤ x ∧ x ≤ 1000) => lnV_bd (n := (L.length : Int)) hx hM hS ⟨n2, n64⟩)
  have RW := Lib.hid (fun u (k : Below w.heap.size w u) => hr.below k)
  replace em := Lib.hid em
  replace es := Lib.hid es
  have hl64 := Lib.hid n64
  clear hS hM hh ho hn hr hT q h2 n64 n2
  go_enter Try.func43, Try.ntmps43
  go_wp2_with fail
  go_loopw [5, 14] (fun l i v => ∃ (k : Nat) (x : Value), k ≤ L.length ∧ l = x ∧ i = .int .i64 (k : Int) ∧ Below w.heap.size w v ∧ Hid (Ow w.heap.size x (dfN m s L k) v)) (fun _ i _ => L.length - (intOf i).toNat)
  case atStart => exact ⟨0, _, by omega, rfl, rfl, Below.refl _ _, Lib.hid (Ow.nil _ _)⟩
  case round =>
    obtain ⟨k, xl, hk, ex, rfl, hb, hO⟩ := hrel
    replace ex := ex.symm
    subst ex
    by_cases hlt : k < L.length
    · obtain ⟨g, off, rfl, -, hc⟩ := (RW.out _ hb).at hlt
      have h1 : (k : Int) < (L.length : Int) := by omega
      have a := BD.out k hlt
      have hkx : -1000 ≤ (k : Int) ∧ (k : Int) ≤ 1000 := by have := hl64.out; omega
      have lb := LB.out (k : Int) hkx
      have CK := Lib.hid (fun u (q : Below w.heap.size w u) => CL.out (k : Int) u q hkx)
      have eS := Lib.hid (dfN_succ m s L k)
      have eV : dfV m s L k = if L.getD k 0 - lnV m s (L.length : Int) (k : Int) < 0 then -(L.getD k 0 - lnV m s (L.length : Int) (k : Int)) else L.getD k 0 - lnV m s (L.length : Int) (k : Int) := rfl
      generalize L.getD k 0 = z at *
      generalize lnV m s (L.length : Int) (k : Int) = R at *
      obtain ⟨D, eD⟩ : ∃ D, D = z - R := ⟨_, rfl⟩
      obtain ⟨E, eE⟩ : ∃ E, E = -D := ⟨_, rfl⟩
      obtain ⟨V, eVV⟩ : ∃ V, V = dfV m s L k := ⟨_, rfl⟩
      rw [← eD] at eV
      have r1 : IntKind.i64.wrap (z - R) = D := by rw [IntKind.wrap_i64]; omega
      have r2 : IntKind.i64.wrap (-D) = E := by rw [IntKind.wrap_i64]; omega
      have r3 : (if D < E then E else D) = V := by rw [eVV, eV]; split <;> split <;> omega
      replace eD := Lib.hid eD
      replace eE := Lib.hid eE
      replace eV := Lib.hid eV
      replace eVV := Lib.hid eVV
      have hkL := Lib.hid hk
      clear a lb hkx
      go_wp2_with fail
      refine (CK.out _ hb).mono ?_
      rintro e w5 ⟨rfl, hb5⟩
      have hO5 := Lib.hid (hO.out.bel hb5)
      have hb6 := Lib.hid (hb.trans (hb5.mono hb.size))
      have hA := Lib.hid ((Below.refl w5.heap.size w5).alloc (Nat.le_refl _) (.cells #[.int .i64 V] 2))
      have hO6 := Lib.hid (hO5.out.bel hA.out)
      have hz6 := Lib.hid (show w.heap.size ≤ (w5.alloc (.cells #[.int .i64 V] 2)).heap.size from by have := hb6.out.size; simp; omega)
      clear hO hb hb5 hc
      go_upto_region 7 with (first | (at_builtin; refine wpList_append_ow _ rfl (.tmp 24) (.tmp 29) rfl w.heap.size xl (dfN m s L k) V rfl hO6.out hz6.out _ rfl (by go_simp) (by rw [dfN_len]; have := hl64.out; omega) ?_; intro x2 w7 hO7 hk7 hx7))
      have hb7 := Lib.hid (hb6.out.trans ((hA.out.mono hb6.out.size).trans (hk7.below hO6.out hz6.out)))
      rw [eVV.out, ← eS.out] at hO7
      replace hO7 := Lib.hid hO7
      have k64 : (k : Int) ≤ 64 := by have := hl64.out; omega
      clear hk7 hx7 hO6 hz6 hA hO5 hb6
      go_wp2
      go_roundw
      case rel => exact ⟨k + 1, _, by omega, rfl, by go_num, hb7.out, hO7⟩
      case measure => simp [intOf]; omega
    · have hge : (L.length : Int) ≤ (k : Int) := by omega
      obtain rfl : k = L.length := by omega
      clear hge
      go_wp2
      go_ret
      exact ⟨_, rfl, hO.out, hb⟩
end Go.Proofs.Yticecjjlafmclaa
