/- Events in memory: a row of them that came in, a row in the making. -/
import Derived.Test.YtfejdbmamaggpaaDoorObj
import Derived.Test.YtfejdbmamaggpaaDoorReg
import Derived.Test.YtfejdbmamaggpaaDoorBase
import Derived.Deep.Cut
import Derived.Deep.AppendLies
namespace Go.Proofs.YtfejdbmamaggpaaDoor
open Go.ChangeShapes Go.WideShapes Go.ChangeAt Go.RowKit
set_option linter.unusedVariables false
set_option linter.unusedSimpArgs false
/-- n events in memory: tick, code, argument. -/
def Pl (w : World) (a : Option Addr) (n : Nat) (N P F : Nat → Int) : Prop :=
  n = 0 ∨ ∃ b off, a = some ⟨b, off, none⟩ ∧ b < w.heap.size ∧ ∀ i, i < n → w.cell? ⟨b, off + i * 3, none⟩ = some (.int .i64 (N i)) ∧ w.cell? ⟨b, off + i * 3 + 1, none⟩ = some (.int .i64 (P i)) ∧ w.cell? ⟨b, off + i * 3 + 2, none⟩ = some (.int .i64 (F i))
theorem Pl.below {w w' : World} {a : Option Addr} {n : Nat} {N P F : Nat → Int} (h : Pl w a n N P F) (hb : Below w.heap.size w w') : Pl w' a n N P F := by
  rcases h with h | ⟨b, off, e, hlt, hc⟩
  · exact .inl h
  · exact .inr ⟨b, off, e, Nat.lt_of_lt_of_le hlt hb.size, fun i hi => ⟨(bc hb hlt).trans (hc i hi).1, (bc hb hlt).trans (hc i hi).2.1, (bc hb hlt).trans (hc i hi).2.2⟩⟩
theorem Pl.at {w : World} {a : Option Addr} {n : Nat} {N P F : Nat → Int} (h : Pl w a n N P F) {i : Nat} (hi : i < n) : ∃ b off, a = some ⟨b, off, none⟩ ∧ b < w.heap.size ∧ w.cell? ⟨b, off + i * 3, none⟩ = some (.int .i64 (N i)) ∧ w.cell? ⟨b, off + i * 3 + 1, none⟩ = some (.int .i64 (P i)) ∧ w.cell? ⟨b, off + i * 3 + 2, none⟩ = some (.int .i64 (F i)) := by
  rcases h with h | ⟨b, off, e, hlt, hc⟩
  · omega
  · exact ⟨b, off, e, hlt, hc i hi⟩
theorem Pl.pre {w : World} {a : Option Addr} {n m : Nat} {N P F : Nat → Int} (h : Pl w a n N P F) (hm : m ≤ n) : Pl w a m N P F := by
  rcases h with h | ⟨b, off, e, hlt, hc⟩
  · exact .inl (by omega)
  · exact .inr ⟨b, off, e, hlt, fun i hi => hc i (by omega)⟩
def plc (rows : List (List Value)) (j i : Nat) : Int := match (rows.getD i [])[j]? with
  | some (.int _ x) => x
  | _ => 0
theorem pl_of_tab {w : World} {t : Option Addr} {rows : List (List Value)} (h : Tab [some .i64, some .i64, some .i64] w t rows) : Pl w t rows.length (plc rows 0) (plc rows 1) (plc rows 2) ∧ ∀ i, i < rows.length → ∀ j, j < 3 → -9223372036854775808 ≤ plc rows j i ∧ plc rows j i ≤ 9223372036854775807 := by
  have key : ∀ i, (hi : i < rows.length) → ∃ b off, t = some ⟨b, off, none⟩ ∧ b < w.heap.size ∧ (∀ j, j < 3 → -9223372036854775808 ≤ plc rows j i ∧ plc rows j i ≤ 9223372036854775807) ∧ w.cell? ⟨b, off + i * 3, none⟩ = some (.int .i64 (plc rows 0 i)) ∧ w.cell? ⟨b, off + i * 3 + 1, none⟩ = some (.int .i64 (plc rows 1 i)) ∧ w.cell? ⟨b, off + i * 3 + 2, none⟩ = some (.int .i64 (plc rows 2 i)) := by
    intro i hi
    obtain ⟨b, off, r, ea, hb, hr, hfl, hcell⟩ := h.at hi
    obtain ⟨x0, _, rfl, h0, hfl⟩ := hfl
    obtain ⟨x1, _, rfl, h1, hfl⟩ := hfl
    obtain ⟨x2, _, rfl, h2, hfl⟩ := hfl
    have q0 : plc rows 0 i = x0 := by unfold plc; rw [hr]; rfl
    have q1 : plc rows 1 i = x1 := by unfold plc; rw [hr]; rfl
    have q2 : plc rows 2 i = x2 := by unfold plc; rw [hr]; rfl
    refine ⟨b, off, ea, hb, fun j hj => ?_, ?_⟩
    · match j, hj with
      | 0, _ => rw [q0]; exact i64_bd h0
      | 1, _ => rw [q1]; exact i64_bd h1
      | 2, _ => rw [q2]; exact i64_bd h2
    · rw [q0, q1, q2]
      exact ⟨hcell 0 _ rfl, hcell 1 _ rfl, hcell 2 _ rfl⟩
  refine ⟨?_, fun i hi => by obtain ⟨_, _, _, _, hs, _⟩ := key i hi; exact hs⟩
  rcases Nat.eq_zero_or_pos rows.length with h0 | h0
  · exact .inl h0
  · obtain ⟨b, off, ea, hb, -⟩ := key 0 h0
    refine .inr ⟨b, off, ea, hb, fun i hi => ?_⟩
    obtain ⟨b', off', ea', hb', -, hc⟩ := key i hi
    rw [ea] at ea'
    injection ea' with ea'
    injection ea' with e1 e2
    subst e1 e2
    exact hc
def plV (N P F : Nat → Int) (i r : Nat) : Value := if r = 0 then .int .i64 (N i) else if r = 1 then .int .i64 (P i) else .int .i64 (F i)
theorem pl_of_row {w : World} {g n : Nat} {N P F : Nat → Int} (hg : g < w.heap.size) (h : ∀ j, j < n * 3 → w.cell? ⟨g, j, none⟩ = some (plV N P F (j / 3) (j % 3))) : Pl w (some ⟨g, 0, none⟩) n N P F := by
  refine .inr ⟨g, 0, rfl, hg, fun i hi => ?_⟩
  have e0 := h (i * 3) (by omega)
  have e1 := h (i * 3 + 1) (by omega)
  have e2 := h (i * 3 + 2) (by omega)
  rw [show i * 3 / 3 = i by omega, show i * 3 % 3 = 0 by omega] at e0
  rw [show (i * 3 + 1) / 3 = i by omega, show (i * 3 + 1) % 3 = 1 by omega] at e1
  rw [show (i * 3 + 2) / 3 = i by omega, show (i * 3 + 2) % 3 = 2 by omega] at e2
  rw [Nat.zero_add]
  exact ⟨e0, e1, e2⟩
theorem row_of_pl {w : World} {b off n : Nat} {N P F : Nat → Int} (h : Pl w (some ⟨b, off, none⟩) n N P F) (j : Nat) (hj : j < n * 3) : w.cell? ⟨b, off + j, none⟩ = some (plV N P F (j / 3) (j % 3)) := by
  obtain ⟨b', off', e, -, k0, k1, k2⟩ := h.at (show j / 3 < n by omega)
  injection e with e
  injection e with e1 e2
  subst e1 e2
  generalize hi : j / 3 = i at *
  generalize hr : j % 3 = r at *
  obtain rfl : j = i * 3 + r := by omega
  have hr3 : r < 3 := by omega
  rw [← Nat.add_assoc]
  rcases (show r = 0 ∨ r = 1 ∨ r = 2 by omega) with rfl | rfl | rfl
  · exact k0
  · exact k1
  · exact k2
def plL (N P F : Nat → Int) (n : Nat) : List Value := (List.range (n * 3)).map fun j => plV N P F (j / 3) (j % 3)
theorem plL_len (N P F : Nat → Int) (n : Nat) : (plL N P F n).length = n * 3 := by simp [plL]
theorem plL_snoc (N P F : Nat → Int) (n : Nat) : plL N P F (n + 1) = plL N P F n ++ [.int .i64 (N n), .int .i64 (P n), .int .i64 (F n)] := by
  unfold plL
  rw [show (n + 1) * 3 = n * 3 + 1 + 1 + 1 by omega, List.range_succ, List.range_succ, List.range_succ]
  simp only [List.map_append, List.map_cons, List.map_nil, List.append_assoc, List.cons_append, List.nil_append]
  rw [show n * 3 / 3 = n by omega, show n * 3 % 3 = 0 by omega, show (n * 3 + 1) / 3 = n by omega, show (n * 3 + 1) % 3 = 1 by omega, show (n * 3 + 1 + 1) / 3 = n by omega, show (n * 3 + 1 + 1) % 3 = 2 by omega]
  rfl
/-- A row of events in the making, in a block of its own. -/
def Sl (B : Nat) (x : Value) (n : Nat) (N P F : Nat → Int) (u : World) : Prop := u.ownsRow B 54 3 x n (plL N P F n)
theorem Sl.nil (B : Nat) (N P F : Nat → Int) (u : World) : Sl B (.slice none 0 0) 0 N P F u := ⟨rfl, .inl ⟨rfl, rfl⟩⟩
theorem Sl.pl {B n : Nat} {x : Value} {N P F : Nat → Int} {u : World} (h : Sl B x n N P F u) : ∃ a c, x = .slice a n c ∧ n ≤ c ∧ Pl u a n N P F := by
  rcases h.2 with ⟨rfl, rfl⟩ | ⟨g, cap, cur, rfl, hg, hc, hn, -⟩
  · exact ⟨none, 0, rfl, Nat.le_refl _, .inl rfl⟩
  · refine ⟨_, cap, rfl, hn, pl_of_row (Array.getElem?_eq_some_iff.1 hc).1 (fun j hj => ?_)⟩
    have h' : u.ownsRow B 54 3 (.slice (some ⟨g, 0, none⟩) n cap) n (plL N P F n) := h
    rw [h'.cellAt j hj]
    simp [plL, hj]
theorem Sl.bel {B n : Nat} {x : Value} {N P F : Nat → Int} {u v : World} (h : Sl B x n N P F u) (k : Below u.heap.size u v) : Sl B x n N P F v := by
  refine ⟨h.1, ?_⟩
  rcases h.2 with h0 | ⟨g, cap, cur, rfl, hg, hc, r⟩
  · exact .inl h0
  · exact .inr ⟨g, cap, cur, rfl, hg, (k.block g (Array.getElem?_eq_some_iff.1 hc).1).trans hc, r⟩
theorem grown_bel {B : Nat} {x : Value} {n : Nat} {N P F : Nat → Int} {u v : World} (h : Sl B x n N P F u) (k : u.grownBy v x.ownBlock) (hB : B ≤ u.heap.size) : Below B u v := by
  refine ⟨k.os, k.tape, k.output, k.size, fun i hi => k.block i (by omega) (fun e => ?_)⟩
  rcases h.2 with ⟨rfl, rfl⟩ | ⟨g, cap, cur, rfl, hg, hc, r⟩
  · cases e
  · have e : i = g := Option.some.inj e
    omega
theorem xs_inf : ∃ i, Tryd.prog.info? 54 = some i ∧ i.zero = some (.agg #[.int .i64 0, .int .i64 0, .int .i64 0]) ∧ i.size = 3 ∧ i.bytes = 24 := info_parts (show (Tryd.prog.info? 54).map (fun i => (i.zero, i.size, i.bytes)) = some (some (.agg #[.int .i64 0, .int .i64 0, .int .i64 0]), 3, 24) by kernel_rfl)
theorem ev_cells (w : World) (x y z : Int) : ∀ j u, [Value.int .i64 x, .int .i64 y, .int .i64 z][j]? = some u → (w.alloc (.cells #[.int .i64 x, .int .i64 y, .int .i64 z] 54)).cell? ((⟨w.heap.size, 0, none⟩ : Addr).add j) = some u := fun j u hu => by
  match j, hu with
  | 0, hu => injection hu with hu; subst hu; go_simp
  | 1, hu => injection hu with hu; subst hu; go_simp
  | 2, hu => injection hu with hu; subst hu; go_simp
  | j + 3, hu => cases hu
theorem ev_one (x y z : Int) : ∀ u ∈ [Value.int .i64 x, .int .i64 y, .int .i64 z], u.oneCell' = true := fun u hu => by
  simp only [List.mem_cons, List.not_mem_nil, or_false] at hu
  rcases hu with rfl | rfl | rfl <;> rfl
end Go.Proofs.YtfejdbmamaggpaaDoor
