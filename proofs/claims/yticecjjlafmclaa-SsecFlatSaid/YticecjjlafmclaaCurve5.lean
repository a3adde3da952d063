/- Library functions over rows of int64: IsSorted, Min, Max, Clone; walked. -/
import Derived.Test.YticecjjlafmclaaCurve0
import Derived.Deep.AppendLies
import Derived.Lib.Walk
import Derived.Lib.SliceRun
namespace Go.Proofs.Yticecjjlafmclaa
open Go.ChangeShapes Go.WideShapes Go.ChangeAt Go.RowKit
set_option linter.unusedVariables false
set_option linter.unusedSimpArgs false

theorem cinfo_i64 : (Try.prog.info? 2).map (fun i => (i.zero, i.size, i.bytes)) = some (some (.int .i64 0), 1, 8) := by kernel_rfl
def cvals (l : List Int) : List Value := l.map (Value.int .i64)
theorem cown_row {w : World} {B n : Nat} {v : Value} {l : List Int} (hn : 0 < n) (hl : l.length = n) (h : w.ownsRow B 2 1 v n (cvals l)) : ∃ g cap, v = .slice (some ⟨g, 0, none⟩) n cap ∧ RowIs .i64 w (some ⟨g, 0, none⟩) l ∧ B ≤ g := by
  rcases h.2 with ⟨_, e⟩ | ⟨g, cap, cur, e, hb, hg, hle, hm, hs, ht⟩
  · omega
  · refine ⟨g, cap, e, .inr ⟨g, 0, rfl, (Array.getElem?_eq_some_iff.1 hg).1, fun i hi => ?_⟩, hb⟩
    have h1 := h.cells (g := g) (by rw [e]; rfl) i (.int .i64 (l.getD i 0)) (by simp [cvals, hi])
    rwa [show (⟨g, 0, none⟩ : Addr).add i = ⟨g, 0 + i, none⟩ by unfold Addr.add; split <;> simp_all] at h1

set_option maxRecDepth 100000 in
set_option maxHeartbeats 4000000 in
theorem cclone_any (a : Option Addr) (cap : Nat) (l : List Int) (w : World) (hr : RowIs .i64 w a l) (hL : l.length ≤ 300) (h0 : 1 ≤ l.length) :
    Calls Try.prog 63 #[.slice a l.length cap] w fun e w' => ∃ (g c : Nat), e = .returned (.slice (some ⟨g, 0, none⟩) l.length c) ∧ RowIs .i64 w' (some ⟨g, 0, none⟩) l ∧ w.heap.size ≤ g ∧ Below w.heap.size w w' := by
  obtain ⟨i0, hi, hz0, hz1, hz2⟩ := info_parts cinfo_i64
  obtain ⟨b, off, rfl, hblk, _⟩ := hr.at (show 0 < l.length by omega)
  have HC := Lib.hid (show ∀ i, i < l.length → w.cell? ⟨b, off + i, none⟩ = some (.int .i64 (l.getD i 0)) from fun i hi => by
    obtain ⟨b', off', ea, _, hc⟩ := hr.at hi
    injection ea with ea
    injection ea with e1 e2
    subst e1 e2
    exact hc)
  have q22 : ∀ (w : World) (a : Option Addr) (n c n' c' : Nat), (binOp .eql 23 (.slice a n c) (.slice none n' c')).run Try.prog w = .ok (.bool a.isNone) w := fun w a n c n' c' => Lib.run_eql_slice_nil w _ _ a n c n' c' Try.underlying23
  replace hi := Lib.hid hi
  replace hz0 := Lib.hid hz0
  replace hz1 := Lib.hid hz1
  replace hz2 := Lib.hid hz2
  replace h0 := Lib.hid h0
  have hM := Lib.hid hL
  clear hr hL
  go_enter Try.func63, Try.ntmps63
  go_wp2_with (at_builtin; refine wpList_append_own _ rfl _ _ 23 rfl w.heap.size 2 i0 (.int .i64 0) 1 8 Try.underlying23 hi.out hz0.out hz1.out hz2.out rfl (by decide) _ _ _ rfl (World.ownsRow_made w #[] 0 (Nat.le_refl _) (Nat.zero_le _) rfl) ⟨b, off, none⟩ l.length cap (cvals l) rfl ?qc1 ?qc2 ?qc3 ?qc4 ?qc5 ?qc6 ?_)
  case qc1 => simp [cvals]
  case qc2 =>
    intro j u hj
    have hjn : j < l.length := by
      have := (List.getElem?_eq_some_iff.1 hj).1
      simpa [cvals] using this
    rw [show (⟨b, off, none⟩ : Addr).add j = ⟨b, off + j, none⟩ by unfold Addr.add; split <;> simp_all]
    refine Lib.cell?_alloc_some _ ?_
    rw [HC.out j hjn]
    have e : (cvals l)[j]? = some (Value.int .i64 (l.getD j 0)) := by simp [cvals, List.getD, List.getElem?_eq_getElem hjn]
    rw [e] at hj
    exact hj
  case qc3 => intro u hu; obtain ⟨x, _, rfl⟩ := List.mem_map.1 hu; rfl
  case qc4 => have := hM.out; unfold maxLen; omega
  case qc5 => have := hM.out; omega
  case qc6 => simp
  intro v' w1 hown hgrow hnil
  obtain ⟨g, c, rfl, hrow, hnew⟩ := cown_row (l := l) h0.out rfl (by simpa using hown)
  replace hrow := Lib.hid hrow
  replace hown := 0
  have hbel := Lib.hid (((Below.refl _ w).alloc (Nat.le_refl _) _).grown hgrow (by simp) (by intro k hk; simp [Value.ownBlock] at hk; omega))
  clear hgrow hnil
  go_wp2
  go_ret
  exact ⟨g, c, by first | rfl | simp, hrow.out, hnew, hbel.out⟩
end Go.Proofs.Yticecjjlafmclaa
