/- Package bus: a plan in memory; a slot's right, find, Right, Load; the law's right and due; walked. -/
import Derived.Test.YtcpmdgbogdikiaaObj
import Derived.Test.YtcpmdgbogdikiaaReg
import Derived.Test.YtcpmdgbogdikiaaBase
import Derived.Deep.Cut
namespace Go.Proofs.Ytcpmdgbogdikiaa
open Go.ChangeShapes Go.WideShapes Go.ChangeAt Go.RowKit
set_option linter.unusedVariables false
set_option linter.unusedSimpArgs false
/-- A plan of n slots in memory. -/
def Pl (w : World) (a : Option Addr) (n : Nat) (N P F : Nat → Int) : Prop :=
  n = 0 ∨ ∃ b off, a = some ⟨b, off, none⟩ ∧ b < w.heap.size ∧ ∀ i, i < n → w.cell? ⟨b, off + i * 3, none⟩ = some (.int .i64 (N i)) ∧ w.cell? ⟨b, off + i * 3 + 1, none⟩ = some (.int .i64 (P i)) ∧ w.cell? ⟨b, off + i * 3 + 2, none⟩ = some (.int .i64 (F i))
theorem Pl.below {w w' : World} {a : Option Addr} {n : Nat} {N P F : Nat → Int} (h : Pl w a n N P F) (hb : Below w.heap.size w w') : Pl w' a n N P F := by
  rcases h with h | ⟨b, off, e, hlt, hc⟩
  · exact .inl h
  · exact .inr ⟨b, off, e, Nat.lt_of_lt_of_le hlt hb.size, fun i hi => ⟨(bc hb hlt).trans (hc i hi).1, (bc hb hlt).trans (hc i hi).2.1, (bc hb hlt).trans (hc i hi).2.2⟩⟩
theorem Pl.at {w : World} {a : Option Addr} {n : Nat} {N P F : Nat → Int} (h : Pl w a n N P F) {i : Nat} (hi : i < n) : ∃ b off, a = some ⟨b, off, none⟩ ∧ b < w.heap.size ∧ w.cell? ⟨b, off + i * 3, none⟩ = some (.int .i64 (N i)) ∧ w.cell? ⟨b, off + i * 3 + 1, none⟩ = some (.int .i64 (P i)) ∧ w.cell? ⟨b, off + i * 3 + 2, none⟩ = some (.int .i64 (F i)) := by
  rcases h with h | ⟨b, off, e, hlt, hc⟩
  · omega
  · exact ⟨b, off, e, hlt, hc i hi⟩
theorem Pl.pre {w : World} {a : Option Addr} {n m : Nat} {N P F : Nat → Int} (h : Pl w a n N P F) (hm : m ≤ n) : Pl w a m N P F := by
  rcases h with h | ⟨b, off, e, hlt, hc⟩
  · exact .inl (by omega)
  · exact .inr ⟨b, off, e, hlt, fun i hi => hc i (by omega)⟩
def plc (rows : List (List Value)) (j i : Nat) : Int := match (rows.getD i [])[j]? with
  | some (.int _ x) => x
  | _ => 0
theorem pl_of_tab {w : World} {t : Option Addr} {rows : List (List Value)} (h : Tab [some .i64, some .i64, some .i64] w t rows) : Pl w t rows.length (plc rows 0) (plc rows 1) (plc rows 2) ∧ ∀ i, i < rows.length → ∀ j, j < 3 → -9223372036854775808 ≤ plc rows j i ∧ plc rows j i ≤ 9223372036854775807 := by
  have key : ∀ i, (hi : i < rows.length) → ∃ b off, t = some ⟨b, off, none⟩ ∧ b < w.heap.size ∧ (∀ j, j < 3 → -9223372036854775808 ≤ plc rows j i ∧ plc rows j i ≤ 9223372036854775807) ∧ w.cell? ⟨b, off + i * 3, none⟩ = some (.int .i64 (plc rows 0 i)) ∧ w.cell? ⟨b, off + i * 3 + 1, none⟩ = some (.int .i64 (plc rows 1 i)) ∧ w.cell? ⟨b, off + i * 3 + 2, none⟩ = some (.int .i64 (plc rows 2 i)) := by
    intro i hi
    obtain ⟨b, off, r, ea, hb, hr, hfl, hcell⟩ := h.at hi
    obtain ⟨x0, _, rfl, h0, hfl⟩ := hfl
    obtain ⟨x1, _, rfl, h1, hfl⟩ := hfl
    obtain ⟨x2, _, rfl, h2, hfl⟩ := hfl
    have q0 : plc rows 0 i = x0 := by unfold plc; rw [hr]; rfl
    have q1 : plc rows 1 i = x1 := by unfold plc; rw [hr]; rfl
    have q2 : plc rows 2 i = x2 := by unfold plc; rw [hr]; rfl
    refine ⟨b, off, ea, hb, fun j hj => ?_, ?_⟩
    · match j, hj with
      | 0, _ => rw [q0]; exact i64_bd h0
      | 1, _ => rw [q1]; exact i64_bd h1
      | 2, _ => rw [q2]; exact i64_bd h2
    · rw [q0, q1, q2]
      exact ⟨hcell 0 _ rfl, hcell 1 _ rfl, hcell 2 _ rfl⟩
  refine ⟨?_, fun i hi => by obtain ⟨_, _, _, _, hs, _⟩ := key i hi; exact hs⟩
  rcases Nat.eq_zero_or_pos rows.length with h0 | h0
  · exact .inl h0
  · obtain ⟨b, off, ea, hb, -⟩ := key 0 h0
    refine .inr ⟨b, off, ea, hb, fun i hi => ?_⟩
    obtain ⟨b', off', ea', hb', -, hc⟩ := key i hi
    rw [ea] at ea'
    injection ea' with ea'
    injection ea' with e1 e2
    subst e1 e2
    exact hc
def srB (N P F : Int) : Bool := decide (0 ≤ N ∧ N ≤ 255 ∧ 1 ≤ P ∧ P ≤ 1000 ∧ 0 ≤ F ∧ F < P)
theorem sl_box (w : World) (N P F : Int) : ∃ V, V = w.alloc (.cells #[.int .i64 N, .int .i64 P, .int .i64 F] 30) ∧ Below w.heap.size w V ∧ V.heap.size = w.heap.size + 1 ∧ V.cell? ⟨w.heap.size, 0, none⟩ = some (.int .i64 N) ∧ V.cell? ⟨w.heap.size, 1, none⟩ = some (.int .i64 P) ∧ V.cell? ⟨w.heap.size, 2, none⟩ = some (.int .i64 F) :=
  ⟨_, rfl, (Below.refl _ _).alloc (Nat.le_refl _) _, by simp, by go_simp, by go_simp, by go_simp⟩
set_option maxRecDepth 100000 in
set_option maxHeartbeats 4000000 in
theorem bsright (N P F : Int) (w : World) : Calls Try.prog 24 #[.agg #[.int .i64 N, .int .i64 P, .int .i64 F]] w fun e w' => e = .returned (.bool (srB N P F)) ∧ Below w.heap.size w w' := by
  obtain ⟨V, eV, hb, hz, c0, c1, c2⟩ := sl_box w N P F
  replace eV := Lib.hid eV
  by_cases z0 : 0 ≤ N
  rotate_left
  · have y0 : decide (0 ≤ N) = false := decide_eq_false z0
    have hR : srB N P F = false := decide_eq_false (by omega)
    go_enter Try.func24, Try.ntmps24
    go_upto_region 1 with (fail)
    rw [← eV.out]
    go_wp2
    go_ret
    first | exact ⟨rfl, hb⟩ | exact ⟨ret_bool hR.symm, hb⟩
  have y0 : decide (0 ≤ N) = true := decide_eq_true z0
  by_cases z1 : N ≤ 255
  rotate_left
  · have y1 : decide (N ≤ 255) = false := decide_eq_false z1
    have hR : srB N P F = false := decide_eq_false (by omega)
    go_enter Try.func24, Try.ntmps24
    go_upto_region 1 with (fail)
    rw [← eV.out]
    go_wp2
    go_ret
    first | exact ⟨rfl, hb⟩ | exact ⟨ret_bool hR.symm, hb⟩
  have y1 : decide (N ≤ 255) = true := decide_eq_true z1
  by_cases z2 : 1 ≤ P
  rotate_left
  · have y2 : decide (1 ≤ P) = false := decide_eq_false z2
    have hR : srB N P F = false := decide_eq_false (by omega)
    go_enter Try.func24, Try.ntmps24
    go_upto_region 1 with (fail)
    rw [← eV.out]
    go_wp2
    go_ret
    first | exact ⟨rfl, hb⟩ | exact ⟨ret_bool hR.symm, hb⟩
  have y2 : decide (1 ≤ P) = true := decide_eq_true z2
  by_cases z3 : P ≤ 1000
  rotate_left
  · have y3 : decide (P ≤ 1000) = false := decide_eq_false z3
    have hR : srB N P F = false := decide_eq_false (by omega)
    go_enter Try.func24, Try.ntmps24
    go_upto_region 1 with (fail)
    rw [← eV.out]
    go_wp2
    go_ret
    first | exact ⟨rfl, hb⟩ | exact ⟨ret_bool hR.symm, hb⟩
  have y3 : decide (P ≤ 1000) = true := decide_eq_true z3
  by_cases z4 : 0 ≤ F
  rotate_left
  · have y4 : decide (0 ≤ F) = false := decide_eq_false z4
    have hR : srB N P F = false := decide_eq_false (by omega)
    go_enter Try.func24, Try.ntmps24
    go_upto_region 1 with (fail)
    rw [← eV.out]
    go_wp2
    go_ret
    first | exact ⟨rfl, hb⟩ | exact ⟨ret_bool hR.symm, hb⟩
  have y4 : decide (0 ≤ F) = true := decide_eq_true z4
  by_cases z5 : F < P
  rotate_left
  · have y5 : decide (F < P) = false := decide_eq_false z5
    have hR : srB N P F = false := decide_eq_false (by omega)
    go_enter Try.func24, Try.ntmps24
    go_upto_region 1 with (fail)
    rw [← eV.out]
    go_wp2
    go_ret
    first | exact ⟨rfl, hb⟩ | exact ⟨ret_bool hR.symm, hb⟩
  have y5 : decide (F < P) = true := decide_eq_true z5
  have hR : srB N P F = true := decide_eq_true (by omega)
  go_enter Try.func24, Try.ntmps24
  go_upto_region 1 with (fail)
  rw [← eV.out]
  go_wp2
  go_ret
  first | exact ⟨rfl, hb⟩ | exact ⟨ret_bool hR.symm, hb⟩
set_option maxRecDepth 100000 in
set_option maxHeartbeats 4000000 in
theorem bsame (q : Nat) (x N P F : Int) (w : World) (hq : w.cell? ⟨q, 0, none⟩ = some (.int .i64 x)) (hlt : q < w.heap.size) : Calls Try.prog 31 #[.agg #[.int .i64 N, .int .i64 P, .int .i64 F], .pointer (some ⟨q, 0, none⟩)] w fun e w' => e = .returned (.bool (N == x)) ∧ Below w.heap.size w w' := by
  obtain ⟨V, eV, hb, hz, c0, c1, c2⟩ := sl_box w N P F
  replace eV := Lib.hid eV
  have k0 := (bc hb hlt).trans hq
  clear hq
  go_enter Try.func31, Try.ntmps31
  go_upto_region 1 with (fail)
  rw [← eV.out]
  go_wp2
  go_ret
  exact ⟨rfl, hb⟩
/-- Where x stands first; -1: nowhere. -/
def FiR (N : Nat → Int) (n : Nat) (x r : Int) : Prop := (∃ j : Nat, j < n ∧ r = (j : Int) ∧ N j = x ∧ ∀ i, i < j → N i ≠ x) ∨ (r = -1 ∧ ∀ j, j < n → N j ≠ x)
set_option maxRecDepth 100000 in
set_option maxHeartbeats 4000000 in
theorem bindexf (a : Option Addr) (cap n : Nat) (N P F : Nat → Int) (q : Nat) (x : Int) (w : World) (h : Pl w a n N P F) (hl : n ≤ 1000) (hq : w.cell? ⟨q, 0, none⟩ = some (.int .i64 x)) (hlt : q < w.heap.size) : Calls Try.prog 30 #[.slice a n cap, .func (.func 31) #[] #[.pointer (some ⟨q, 0, none⟩)]] w fun e w' => ∃ r : Int, e = .returned (.int .i64 r) ∧ FiR N n x r ∧ Below w.heap.size w w' := by
  have HH := Lib.hid h
  have CL := Lib.hid (fun x1 x2 x3 u (k : Below w.heap.size w u) => bsame q x x1 x2 x3 u ((bc k hlt).trans hq) (Nat.lt_of_lt_of_le hlt k.size))
  clear h hq hlt
  go_enter Try.func30, Try.ntmps30
  go_wp2
  go_loopw [8] (fun i v => ∃ k : Nat, k ≤ n ∧ i = .int .i64 (k : Int) ∧ Hid (Below w.heap.size w v) ∧ Hid (∀ j, j < k → N j ≠ x)) (fun i _ => n - (intOf i).toNat)
  case atStart => exact ⟨0, by omega, rfl, Lib.hid (Below.refl _ _), Lib.hid (fun j hj => by omega)⟩
  case round =>
    obtain ⟨k, hk, rfl, hb, hN⟩ := hrel
    by_cases hltk : k < n
    · obtain ⟨b, off, ea, hbb, k0, k1, k2⟩ := (HH.out.below hb.out).at hltk
      subst ea
      have j1 : (k : Int) < (n : Int) := by omega
      have j2 : IntKind.i64.wrap ((k : Int) + 1) = (k : Int) + 1 := by rw [IntKind.wrap_i64]; omega
      have j3 : 0 ≤ (k : Int) := by omega
      have CK := Lib.hid (CL.out (N k) (P k) (F k) wr hb.out)
      obtain ⟨p, ep⟩ : ∃ p, (N k == x) = p := ⟨_, rfl⟩
      rw [ep] at CK
      replace ep := Lib.hid ep
      clear hbb
      cases p
      all_goals
        go_wp2_with fail
        refine CK.out.mono ?_
        rintro e w1 ⟨rfl, hb1⟩
        have hb2 := Lib.hid (hb.out.trans (hb1.mono hb.out.size))
        clear hb1 hb
      · have hN2 := Lib.hid (show ∀ j, j < k + 1 → N j ≠ x from fun j hj => by
          by_cases q : j = k
          · subst q; exact beq_eq_false_iff_ne.1 ep.out
          · exact hN.out j (by omega))
        go_wp2
        go_roundw
        case rel => exact ⟨k + 1, by omega, by first | rfl | go_num, hb2, hN2⟩
        case measure => simp [intOf] <;> omega
      · go_wp2
        go_ret
        exact ⟨(k : Int), rfl, .inl ⟨k, hltk, rfl, beq_iff_eq.1 ep.out, hN.out⟩, hb2.out⟩
    · obtain rfl : k = n := by omega
      go_wp2
      go_ret
      exact ⟨-1, rfl, .inr ⟨rfl, hN.out⟩, hb.out⟩
set_option maxRecDepth 100000 in
set_option maxHeartbeats 4000000 in
theorem bfind (a : Option Addr) (cap n : Nat) (N P F : Nat → Int) (x : Int) (w : World) (h : Pl w a n N P F) (hl : n ≤ 1000) : Calls Try.prog 25 #[.slice a n cap, .int .i64 x] w fun e w' => ∃ r : Int, e = .returned (.int .i64 r) ∧ FiR N n x r ∧ Below w.heap.size w w' := by
  have hmf : ∀ (fn : Fn) (first cap : Array Value) (w : World), (Instr.makeFunc fn first cap).run Try.prog w = .ok (.func fn first cap) w := fun _ _ _ _ => rfl
  have hA := (Below.refl w.heap.size w).alloc (Nat.le_refl _) (.cells #[.int .i64 x] 3)
  have I := Lib.hid (bindexf a cap n N P F w.heap.size x (w.alloc (.cells #[.int .i64 x] 3)) (h.below hA) hl (by go_simp) (by simp))
  replace hA := Lib.hid hA
  clear h
  go_enter Try.func25, Try.ntmps25
  go_wp2_with fail
  refine I.out.mono ?_
  rintro e w1 ⟨r, rfl, hr, hb⟩
  replace hr := Lib.hid hr
  replace hb := Lib.hid (show Below w.heap.size w w1 from hA.out.trans (hb.mono hA.out.size))
  go_wp2
  go_ret
  exact ⟨r, rfl, hr.out, hb.out⟩
end Go.Proofs.Ytcpmdgbogdikiaa
