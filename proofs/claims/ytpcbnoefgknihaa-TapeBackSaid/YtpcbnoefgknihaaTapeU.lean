/- slices.Chunk of rows of numbers: what its iterator hands out; walked. -/
import Derived.Test.YtpcbnoefgknihaaBase
import Derived.RangeFuncNested
import Derived.RangeFuncBound
import Derived.RangeFuncCalls
import Derived.RangeFuncLeaves
import Derived.Shelf.Abstract
import Derived.Shelf.RegionOpen
import Derived.WalkKit
import Derived.OwnWalkIn
import Derived.TacticsInMore
import Derived.LoopNIn
import Derived.LoopIn
import Derived.Sort.QuietIn
namespace Go.Proofs.Ytpcbnoefgknihaa
open Go.ChangeShapes Go.WideShapes Go.ChangeAt Go.RowKit Go.Shelf
set_option linter.unusedVariables false
set_option linter.unusedSimpArgs false
attribute [local go_sem] Oper.semAt_some
/-- What a round keeps: of the blocks below n nothing but block b changes. -/
def KpC (n b : Nat) (W W' : World) : Prop := W.heap.size ≤ W'.heap.size ∧ ∀ k, k < n → k ≠ b → W'.heap[k]? = W.heap[k]?
theorem KpC.refl (n b : Nat) (W : World) : KpC n b W W := ⟨Nat.le_refl _, fun _ _ _ => rfl⟩
theorem KpC.trans {n b : Nat} {U V W : World} (h : KpC n b U V) (k : KpC n b V W) : KpC n b U W := ⟨Nat.le_trans h.1 k.1, fun i hi hb => (k.2 i hi hb).trans (h.2 i hi hb)⟩
/-- How many parts there are; what the k-th one is. -/
def ckN (len : Nat) : Nat := (len + 49) / 50
def ckE (a : Option Addr) (len : Nat) (k : Nat) : Value := .slice (a.map (·.add (50 * k))) (min 50 (len - 50 * k)) (min 50 (len - 50 * k))
set_option maxRecDepth 100000 in
set_option maxHeartbeats 2000000 in
theorem chunk1_in (n : Nat) (hn : 1 ≤ n) (l Bs Bn n1 Bb : Nat) (a : Option Addr) (len cap : Nat) (hlen : len ≤ 100000) (hcap : len ≤ cap) (hs : Bs < n1 ∧ Bs ≠ Bb) (hb : Bn < n1 ∧ Bn ≠ Bb) (J Jx : List Nat → World → Prop)
    (hD : ∀ pre W m, J pre W → J pre (W.drewN m))
    (hY : ∀ pre x W, J pre W → pre.length < ckN len → YieldAt Fence.wide (n - 1) Try.prog l #[ckE a len x] W fun e W' =>
      (e = .returned (.bool true) ∧ J (pre ++ [x]) W' ∧ KpC n1 Bb W W') ∨ (e = .returned (.bool false) ∧ Jx (pre ++ [x]) W'))
    (W : World) (hBs : W.cell? ⟨Bs, 0, none⟩ = some (.slice a len cap)) (hBn : W.cell? ⟨Bn, 0, none⟩ = some (.int .i64 50)) (h0 : J [] W) :
    CallsIn Fence.wide n Try.prog 60 #[.func (.yield l) #[] #[], .pointer (some ⟨Bs, 0, none⟩), .pointer (some ⟨Bn, 0, none⟩)] W fun e W' => (∃ v, e = .returned v) ∧
      ((∃ ys, ys = List.range (ckN len) ∧ J ys W') ∨ (∃ pre, (∃ k, k ≤ ckN len ∧ pre = List.range k) ∧ Jx pre W')) := by
  refine callsIn_of_wp Try.func60 rfl trivial ?_ rfl
  simp only [Try.ntmps60, List.size_toArray, List.length_cons, List.length_nil, Nat.reduceAdd, Nat.reduceSub, Array.replicate_succ, Array.replicate_zero, List.push_toArray, List.append_toArray, List.nil_append, List.cons_append]
  gi_wp2
  gi_loopw [4] (fun i wr => ∃ k : Nat, k ≤ ckN len ∧ i = .int .i64 ((50 * k : Nat) : Int) ∧ J (List.range k) wr ∧ KpC n1 Bb W wr)
    (fun i _ => len - (intOf i).toNat)
  case atStart => exact ⟨0, Nat.zero_le _, rfl, h0, KpC.refl _ _ _⟩
  case round =>
    obtain ⟨k, hk, rfl, hJs, hK⟩ := hrel
    have b1 : wr.cell? ⟨Bs, 0, none⟩ = some (.slice a len cap) := (World.cell?_of_block (a := ⟨Bs, 0, none⟩) (hK.2 Bs hs.1 hs.2)).trans hBs
    have b2 : wr.cell? ⟨Bn, 0, none⟩ = some (.int .i64 50) := (World.cell?_of_block (a := ⟨Bn, 0, none⟩) (hK.2 Bn hb.1 hb.2)).trans hBn
    by_cases hlt : k < ckN len
    · have hj : 50 * k < len := by unfold ckN at hlt; omega
      have hk1 : (k + 1 ≤ ckN len) := hlt
      obtain ⟨j, ej⟩ : ∃ z, 50 * k = z := ⟨_, rfl⟩
      rw [ej] at hj ⊢
      have j0 : (0 : Int) ≤ (j : Int) := by omega
      have jl : (j : Int) < (len : Int) := by omega
      have jm : (j : Int) ≤ (len : Int) := by omega
      have jc : (j : Int) ≤ (cap : Int) := by omega
      have lc : (len : Int) ≤ (cap : Int) := by omega
      have kn : ¬ (cap = j) := by omega
      have wj : IntKind.i64.wrap ((j : Int) + 50) = ((j + 50 : Nat) : Int) := by rw [IntKind.wrap_i64]; omega
      obtain ⟨m, em⟩ : ∃ z, min 50 (len - j) = z := ⟨_, rfl⟩
      have m0 : 0 < m ∧ m ≤ 50 ∧ j + m ≤ len := by omega
      obtain ⟨e, ee⟩ : ∃ z, j + m = z := ⟨_, rfl⟩
      have eI : (if ((len - j : Nat) : Int) < 50 then ((len - j : Nat) : Int) else 50) = (m : Int) := by split <;> omega
      have we : IntKind.i64.wrap ((j : Int) + (m : Int)) = (e : Int) := by rw [IntKind.wrap_i64]; omega
      have e1 : (j : Int) ≤ (e : Int) := by omega
      have e2 : (e : Int) ≤ (cap : Int) := by omega
      have e3 : e - j = m := by omega
      have e4 : ¬ (m = 0) := by omega
      have e5 : ¬ (e = j) := by omega
      have e6 : (0 : Int) ≤ (e : Int) := by omega
      gi_wp2
      gi_quiet (fail)
      obtain ⟨v, ev⟩ : ∃ v, wr.drewN nq = v := ⟨_, rfl⟩
      have hJv : J (List.range k) v := by rw [← ev]; exact hD _ _ _ hJs
      have hKv : KpC n1 Bb W v := by rw [← ev]; exact hK
      have c1 : v.cell? ⟨Bs, 0, none⟩ = some (.slice a len cap) := by rw [← ev]; exact b1
      have c2 : v.cell? ⟨Bn, 0, none⟩ = some (.int .i64 50) := by rw [← ev]; exact b2
      rw [ev]
      clear ev hJs hK b1 b2
      obtain ⟨fn, tmps, assign, body, hy, hR⟩ := hY _ k v hJv (by simpa using hlt)
      unfold ckE at hy
      rw [ej, em] at hy
      gi_wp2
      refine hR.mono ?_
      rintro e W3 (⟨rfl, hJ3, hk3⟩ | ⟨rfl, hJx3⟩)
      · have hK3 := hKv.trans hk3
        have c4 : W3.cell? ⟨Bn, 0, none⟩ = some (.int .i64 50) := (World.cell?_of_block (a := ⟨Bn, 0, none⟩) (hK3.2 Bn hb.1 hb.2)).trans hBn
        gi_wp2
        go_roundw
        case rel => exact ⟨k + 1, by omega, by rw [← ej]; first | rfl | (congr 1; omega), by rw [List.range_succ]; exact hJ3, hK3⟩
        case measure => simp [intOf]; omega
      · gi_wp2
        refine bodyPost_ret (results_none rfl _ _ _) rfl ?_
        exact ⟨⟨_, rfl⟩, .inr ⟨_, ⟨k + 1, by omega, List.range_succ.symm⟩, hJx3⟩⟩
    · obtain rfl : k = ckN len := by omega
      have e1 : ¬ ((50 * ckN len : Nat) : Int) < (len : Int) := by unfold ckN; omega
      generalize 50 * ckN len = j at *
      gi_wp2
      go_end0
      first | exact ⟨⟨_, rfl⟩, .inl hJs⟩ | exact ⟨⟨_, rfl⟩, .inl ⟨_, rfl, hJs⟩⟩
theorem chunk_stops (n : Nat) (hn : 1 ≤ n) (Bs Bn n1 Bb : Nat) (a : Option Addr) (len cap : Nat) (hlen : len ≤ 100000) (hcap : len ≤ cap) (hs : Bs < n1 ∧ Bs ≠ Bb) (hb : Bn < n1 ∧ Bn ≠ Bb) (w : World) (hn1 : n1 ≤ w.heap.size) (hBs : w.cell? ⟨Bs, 0, none⟩ = some (.slice a len cap)) (hBn : w.cell? ⟨Bn, 0, none⟩ = some (.int .i64 50)) :
    SeqStopsK Fence.wide n Try.prog 60 #[.pointer (some ⟨Bs, 0, none⟩), .pointer (some ⟨Bn, 0, none⟩)] (fun x : Nat => #[ckE a len x]) (KpC n1 Bb) (fun ys => ys = List.range (ckN len)) (fun _ => True) (ckN len) w := fun l J Jx W hW hJ _ hY h0 => by
  refine (chunk1_in n hn l Bs Bn n1 Bb a len cap hlen hcap hs hb J Jx (fun pre W m h => hJ pre W _ none h ⟨rfl, rfl, rfl, Nat.le_refl _, fun _ _ _ => rfl⟩ (fun r e => by cases e)) hY W ((hW.cell (p := ⟨Bs, 0, none⟩) (by show Bs < _; omega)).trans hBs) ((hW.cell (p := ⟨Bn, 0, none⟩) (by show Bn < _; omega)).trans hBn) h0).mono ?_
  rintro e W' ⟨he, h | ⟨pre, -, h⟩⟩
  · exact ⟨he, .inl h⟩
  · exact ⟨he, .inr ⟨pre, trivial, h⟩⟩
set_option maxRecDepth 100000 in
set_option maxHeartbeats 2000000 in
theorem chunk_any (a : Option Addr) (len cap : Nat) (w : World) : Calls Try.prog 52 #[.slice a len cap, .int .i64 50] w fun e w' => e = .returned (.func (.func 60) #[] #[.pointer (some ⟨w.heap.size, 0, none⟩), .pointer (some ⟨w.heap.size + 1, 0, none⟩)]) ∧ w' = (w.alloc (.cells #[.slice a len cap] 35)).alloc (.cells #[.int .i64 50] 3) := by
  have hmf : ∀ (fn : Fn) (first cap : Array Value) (w : World), (Instr.makeFunc fn first cap).run Try.prog w = .ok (.func fn first cap) w := fun _ _ _ _ => rfl
  go_enter Try.func52, Try.ntmps52
  go_wp2
  go_ret
  exact ⟨rfl, rfl⟩
end Go.Proofs.Ytpcbnoefgknihaa
