/- Package unit: the table, what is looked up in it; the document's names, kinds and shares; walked. -/
import Derived.Test.YtfejdbmamaggpaaDoorBase
import Derived.Test.YtfejdbmamaggpaaDoorNew
import Derived.Test.YtfejdbmamaggpaaDoorObj
import Derived.Test.YtfejdbmamaggpaaDoorReg
import Derived.Deep.Cut
namespace Go.Proofs.YtfejdbmamaggpaaDoor
open Go.ChangeShapes Go.WideShapes Go.ChangeAt Go.RowKit
set_option linter.unusedVariables false
set_option linter.unusedSimpArgs false
/-- The name, kind and size of each unit. -/
def uN : Nat → ByteArray
  | 0 => ⟨#[99, 109]⟩
  | 1 => ⟨#[109]⟩
  | 2 => ⟨#[102, 116]⟩
  | 3 => ⟨#[102, 108]⟩
  | 4 => ⟨#[110, 109, 105]⟩
  | 5 => ⟨#[112, 97, 54, 52]⟩
  | 6 => ⟨#[112, 97]⟩
  | 7 => ⟨#[104, 112, 97]⟩
  | 8 => ⟨#[105, 110, 104, 103]⟩
  | 9 => ⟨#[99, 109, 115]⟩
  | 10 => ⟨#[107, 116]⟩
  | 11 => ⟨#[107, 109, 104]⟩
  | 12 => ⟨#[102, 112, 109]⟩
  | 13 => ⟨#[109, 107]⟩
  | 14 => ⟨#[107]⟩
  | _ => ⟨#[]⟩
def uK : Nat → Int
  | 0 => 0
  | 1 => 0
  | 2 => 0
  | 3 => 0
  | 4 => 0
  | 5 => 1
  | 6 => 1
  | 7 => 1
  | 8 => 1
  | 9 => 2
  | 10 => 2
  | 11 => 2
  | 12 => 2
  | 13 => 3
  | 14 => 3
  | _ => 0
def uA : Nat → Int
  | 0 => 1
  | 1 => 100
  | 2 => 3048
  | 3 => 3048
  | 4 => 185200
  | 5 => 1
  | 6 => 64
  | 7 => 6400
  | 8 => 216728
  | 9 => 1
  | 10 => 185200
  | 11 => 100000
  | 12 => 3048
  | 13 => 1
  | 14 => 1000
  | _ => 0
def uB : Nat → Int
  | 0 => 1
  | 1 => 1
  | 2 => 100
  | 3 => 1
  | 4 => 1
  | 5 => 1
  | 6 => 1
  | 7 => 1
  | 8 => 1
  | 9 => 1
  | 10 => 3600
  | 11 => 3600
  | 12 => 6000
  | 13 => 1
  | 14 => 1
  | _ => 0
def unB (u : Int) : Bool := decide (0 ≤ u ∧ u < 15)
/-- A row of the table in memory. -/
def TbU (w : World) (g : Nat) : Prop := g < w.heap.size ∧ ∀ i, i < 15 → w.cell? ⟨g, i * 4, none⟩ = some (.string (uN i)) ∧ w.cell? ⟨g, i * 4 + 1, none⟩ = some (.int .i64 (uK i)) ∧ w.cell? ⟨g, i * 4 + 2, none⟩ = some (.int .i64 (uA i)) ∧ w.cell? ⟨g, i * 4 + 3, none⟩ = some (.int .i64 (uB i))
theorem TbU.bel {w u : World} {g : Nat} (h : TbU w g) (k : Below w.heap.size w u) : TbU u g := ⟨Nat.lt_of_lt_of_le h.1 k.size, fun i hi => ⟨(bc k h.1).trans (h.2 i hi).1, (bc k h.1).trans (h.2 i hi).2.1, (bc k h.1).trans (h.2 i hi).2.2.1, (bc k h.1).trans (h.2 i hi).2.2.2⟩⟩
theorem tb_new (w : World) : TbU (w.alloc (.cells #[.string ⟨#[99, 109]⟩, .int .i64 0, .int .i64 1, .int .i64 1, .string ⟨#[109]⟩, .int .i64 0, .int .i64 100, .int .i64 1, .string ⟨#[102, 116]⟩, .int .i64 0, .int .i64 3048, .int .i64 100, .string ⟨#[102, 108]⟩, .int .i64 0, .int .i64 3048, .int .i64 1, .string ⟨#[110, 109, 105]⟩, .int .i64 0, .int .i64 185200, .int .i64 1, .string ⟨#[112, 97, 54, 52]⟩, .int .i64 1, .int .i64 1, .int .i64 1, .string ⟨#[112, 97]⟩, .int .i64 1, .int .i64 64, .int .i64 1, .string ⟨#[104, 112, 97]⟩, .int .i64 1, .int .i64 6400, .int .i64 1, .string ⟨#[105, 110, 104, 103]⟩, .int .i64 1, .int .i64 216728, .int .i64 1, .string ⟨#[99, 109, 115]⟩, .int .i64 2, .int .i64 1, .int .i64 1, .string ⟨#[107, 116]⟩, .int .i64 2, .int .i64 185200, .int .i64 3600, .string ⟨#[107, 109, 104]⟩, .int .i64 2, .int .i64 100000, .int .i64 3600, .string ⟨#[102, 112, 109]⟩, .int .i64 2, .int .i64 3048, .int .i64 6000, .string ⟨#[109, 107]⟩, .int .i64 3, .int .i64 1, .int .i64 1, .string ⟨#[107]⟩, .int .i64 3, .int .i64 1000, .int .i64 1] 103)) w.heap.size := by
  refine ⟨by simp, fun i hi => ?_⟩
  have e : ∀ o (x : Value), (#[.string ⟨#[99, 109]⟩, .int .i64 0, .int .i64 1, .int .i64 1, .string ⟨#[109]⟩, .int .i64 0, .int .i64 100, .int .i64 1, .string ⟨#[102, 116]⟩, .int .i64 0, .int .i64 3048, .int .i64 100, .string ⟨#[102, 108]⟩, .int .i64 0, .int .i64 3048, .int .i64 1, .string ⟨#[110, 109, 105]⟩, .int .i64 0, .int .i64 185200, .int .i64 1, .string ⟨#[112, 97, 54, 52]⟩, .int .i64 1, .int .i64 1, .int .i64 1, .string ⟨#[112, 97]⟩, .int .i64 1, .int .i64 64, .int .i64 1, .string ⟨#[104, 112, 97]⟩, .int .i64 1, .int .i64 6400, .int .i64 1, .string ⟨#[105, 110, 104, 103]⟩, .int .i64 1, .int .i64 216728, .int .i64 1, .string ⟨#[99, 109, 115]⟩, .int .i64 2, .int .i64 1, .int .i64 1, .string ⟨#[107, 116]⟩, .int .i64 2, .int .i64 185200, .int .i64 3600, .string ⟨#[107, 109, 104]⟩, .int .i64 2, .int .i64 100000, .int .i64 3600, .string ⟨#[102, 112, 109]⟩, .int .i64 2, .int .i64 3048, .int .i64 6000, .string ⟨#[109, 107]⟩, .int .i64 3, .int .i64 1, .int .i64 1, .string ⟨#[107]⟩, .int .i64 3, .int .i64 1000, .int .i64 1] : Array Value)[o]? = some x → (w.alloc (.cells #[.string ⟨#[99, 109]⟩, .int .i64 0, .int .i64 1, .int .i64 1, .string ⟨#[109]⟩, .int .i64 0, .int .i64 100, .int .i64 1, .string ⟨#[102, 116]⟩, .int .i64 0, .int .i64 3048, .int .i64 100, .string ⟨#[102, 108]⟩, .int .i64 0, .int .i64 3048, .int .i64 1, .string ⟨#[110, 109, 105]⟩, .int .i64 0, .int .i64 185200, .int .i64 1, .string ⟨#[112, 97, 54, 52]⟩, .int .i64 1, .int .i64 1, .int .i64 1, .string ⟨#[112, 97]⟩, .int .i64 1, .int .i64 64, .int .i64 1, .string ⟨#[104, 112, 97]⟩, .int .i64 1, .int .i64 6400, .int .i64 1, .string ⟨#[105, 110, 104, 103]⟩, .int .i64 1, .int .i64 216728, .int .i64 1, .string ⟨#[99, 109, 115]⟩, .int .i64 2, .int .i64 1, .int .i64 1, .string ⟨#[107, 116]⟩, .int .i64 2, .int .i64 185200, .int .i64 3600, .string ⟨#[107, 109, 104]⟩, .int .i64 2, .int .i64 100000, .int .i64 3600, .string ⟨#[102, 112, 109]⟩, .int .i64 2, .int .i64 3048, .int .i64 6000, .string ⟨#[109, 107]⟩, .int .i64 3, .int .i64 1, .int .i64 1, .string ⟨#[107]⟩, .int .i64 3, .int .i64 1000, .int .i64 1] 103)).cell? ⟨w.heap.size, o, none⟩ = some x := fun o x h => by rw [cell_of_row _ w.heap.size _ _ _ _ (heap_alloc_new w _)]; exact h
  match i, hi with
  | 0, _ => exact ⟨e 0 _ rfl, e 1 _ rfl, e 2 _ rfl, e 3 _ rfl⟩
  | 1, _ => exact ⟨e 4 _ rfl, e 5 _ rfl, e 6 _ rfl, e 7 _ rfl⟩
  | 2, _ => exact ⟨e 8 _ rfl, e 9 _ rfl, e 10 _ rfl, e 11 _ rfl⟩
  | 3, _ => exact ⟨e 12 _ rfl, e 13 _ rfl, e 14 _ rfl, e 15 _ rfl⟩
  | 4, _ => exact ⟨e 16 _ rfl, e 17 _ rfl, e 18 _ rfl, e 19 _ rfl⟩
  | 5, _ => exact ⟨e 20 _ rfl, e 21 _ rfl, e 22 _ rfl, e 23 _ rfl⟩
  | 6, _ => exact ⟨e 24 _ rfl, e 25 _ rfl, e 26 _ rfl, e 27 _ rfl⟩
  | 7, _ => exact ⟨e 28 _ rfl, e 29 _ rfl, e 30 _ rfl, e 31 _ rfl⟩
  | 8, _ => exact ⟨e 32 _ rfl, e 33 _ rfl, e 34 _ rfl, e 35 _ rfl⟩
  | 9, _ => exact ⟨e 36 _ rfl, e 37 _ rfl, e 38 _ rfl, e 39 _ rfl⟩
  | 10, _ => exact ⟨e 40 _ rfl, e 41 _ rfl, e 42 _ rfl, e 43 _ rfl⟩
  | 11, _ => exact ⟨e 44 _ rfl, e 45 _ rfl, e 46 _ rfl, e 47 _ rfl⟩
  | 12, _ => exact ⟨e 48 _ rfl, e 49 _ rfl, e 50 _ rfl, e 51 _ rfl⟩
  | 13, _ => exact ⟨e 52 _ rfl, e 53 _ rfl, e 54 _ rfl, e 55 _ rfl⟩
  | 14, _ => exact ⟨e 56 _ rfl, e 57 _ rfl, e 58 _ rfl, e 59 _ rfl⟩
  | i + 15, h => omega
set_option maxRecDepth 100000 in
set_option maxHeartbeats 8000000 in
theorem utable (w : World) : Calls Tryd.prog 65 #[] w fun e w' => ∃ g, e = .returned (.slice (some ⟨g, 0, none⟩) 15 15) ∧ TbU w' g ∧ Below w.heap.size w w' := by
  have hT := Lib.hid (tb_new w)
  have hB := Lib.hid ((Below.refl w.heap.size w).alloc (Nat.le_refl _) (.cells #[.string ⟨#[99, 109]⟩, .int .i64 0, .int .i64 1, .int .i64 1, .string ⟨#[109]⟩, .int .i64 0, .int .i64 100, .int .i64 1, .string ⟨#[102, 116]⟩, .int .i64 0, .int .i64 3048, .int .i64 100, .string ⟨#[102, 108]⟩, .int .i64 0, .int .i64 3048, .int .i64 1, .string ⟨#[110, 109, 105]⟩, .int .i64 0, .int .i64 185200, .int .i64 1, .string ⟨#[112, 97, 54, 52]⟩, .int .i64 1, .int .i64 1, .int .i64 1, .string ⟨#[112, 97]⟩, .int .i64 1, .int .i64 64, .int .i64 1, .string ⟨#[104, 112, 97]⟩, .int .i64 1, .int .i64 6400, .int .i64 1, .string ⟨#[105, 110, 104, 103]⟩, .int .i64 1, .int .i64 216728, .int .i64 1, .string ⟨#[99, 109, 115]⟩, .int .i64 2, .int .i64 1, .int .i64 1, .string ⟨#[107, 116]⟩, .int .i64 2, .int .i64 185200, .int .i64 3600, .string ⟨#[107, 109, 104]⟩, .int .i64 2, .int .i64 100000, .int .i64 3600, .string ⟨#[102, 112, 109]⟩, .int .i64 2, .int .i64 3048, .int .i64 6000, .string ⟨#[109, 107]⟩, .int .i64 3, .int .i64 1, .int .i64 1, .string ⟨#[107]⟩, .int .i64 3, .int .i64 1000, .int .i64 1] 103))
  go_enter Tryd.func65, Tryd.ntmps65
  go_wp2
  go_ret
  exact ⟨_, rfl, hT.out, hB.out⟩
def lkV (u : Int) : Value := if unB u = true then .agg #[.string (uN u.toNat), .int .i64 (uK u.toNat), .int .i64 (uA u.toNat), .int .i64 (uB u.toNat)] else .agg #[.string ⟨#[]⟩, .int .i64 0, .int .i64 0, .int .i64 0]
set_option maxRecDepth 100000 in
set_option maxHeartbeats 8000000 in
theorem ulook_no (u : Int) (w : World) (h : unB u = false) : Calls Tryd.prog 64 #[.int .i64 u] w fun e w' => e = .returned (.tuple #[.agg #[.string ⟨#[]⟩, .int .i64 0, .int .i64 0, .int .i64 0], .bool false]) ∧ Below w.heap.size w w' := by
  have h := of_decide_eq_false h
  have UT := Lib.hid (utable (w.alloc (.cells #[.string ⟨#[]⟩, .int .i64 0, .int .i64 0, .int .i64 0] 103)))
  have hA := (Below.refl w.heap.size w).alloc (Nat.le_refl _) (.cells #[.string ⟨#[]⟩, .int .i64 0, .int .i64 0, .int .i64 0] 103)
  have hO : Held w.heap.size [.string ⟨#[]⟩, .int .i64 0, .int .i64 0, .int .i64 0] (w.alloc (.cells #[.string ⟨#[]⟩, .int .i64 0, .int .i64 0, .int .i64 0] 103)) := Held.new w [.string ⟨#[]⟩, .int .i64 0, .int .i64 0, .int .i64 0] 103
  obtain ⟨V, eV⟩ : ∃ V, V = w.alloc (.cells #[.string ⟨#[]⟩, .int .i64 0, .int .i64 0, .int .i64 0] 103) := ⟨_, rfl⟩
  have EV := Lib.hid eV
  obtain ⟨B, eB⟩ : ∃ B, w.heap.size = B := ⟨_, rfl⟩
  have hz : B < V.heap.size := by rw [eV, ← eB]; simp
  rw [← eV] at UT hA hO
  rw [eB] at hA hO
  clear eV
  have hA := Lib.hid hA
  have hO := Lib.hid hO
  by_cases z : u < 0
  · have y0 : decide (u < 0) = true := decide_eq_true z
    go_enter Tryd.func64, Tryd.ntmps64
    go_wp2_with fail
    rw [← EV.out]
    refine UT.out.mono ?_
    rintro e u1 ⟨g, rfl, hT, hb⟩
    have hH := hO.out.bel hb
    obtain ⟨c0, f0⟩ := hH.one 0 rfl
    obtain ⟨c1, f1⟩ := hH.one 1 rfl
    obtain ⟨c2, f2⟩ := hH.one 2 rfl
    obtain ⟨c3, f3⟩ := hH.one 3 rfl
    have h1 := Lib.hid (show Below B w u1 from hA.out.trans (hb.mono (Nat.le_of_lt hz)))
    have hH := Lib.hid hH
    clear hb hO hA UT EV
    go_wp2
    have hF := (((hH.out.set 0 (.string ⟨#[]⟩) (by simp)).set 1 (.int .i64 0) (by simp)).set 2 (.int .i64 0) (by simp)).set 3 (.int .i64 0) (by simp)
    have hL := Lib.hid ((((h1.out.setCell (p := ⟨B, 0, none⟩) (Nat.le_refl B) (.string ⟨#[]⟩)).setCell (p := ⟨B, 1, none⟩) (Nat.le_refl B) (.int .i64 0)).setCell (p := ⟨B, 2, none⟩) (Nat.le_refl B) (.int .i64 0)).setCell (p := ⟨B, 3, none⟩) (Nat.le_refl B) (.int .i64 0))
    generalize (((u1.setCell ⟨B, 0, none⟩ (.string ⟨#[]⟩)).setCell ⟨B, 1, none⟩ (.int .i64 0)).setCell ⟨B, 2, none⟩ (.int .i64 0)).setCell ⟨B, 3, none⟩ (.int .i64 0) = u2 at *
    have d0 := (hF.one 0 rfl).1
    have d1 := (hF.one 1 rfl).1
    have d2 := (hF.one 2 rfl).1
    have d3 := (hF.one 3 rfl).1
    refine bodyPost_ret (v := .tuple #[.agg #[.string ⟨#[]⟩, .int .i64 0, .int .i64 0, .int .i64 0], .bool false]) (by simp [results, Tryd.results64, go_sem, d0, d1, d2, d3]) rfl ⟨rfl, ?_⟩
    rw [eB]
    exact hL.out
  · have y0 : decide (u < 0) = false := decide_eq_false z
    have y1 : decide (15 ≤ u) = true := decide_eq_true (by omega)
    go_enter Tryd.func64, Tryd.ntmps64
    go_wp2_with fail
    rw [← EV.out]
    refine UT.out.mono ?_
    rintro e u1 ⟨g, rfl, hT, hb⟩
    have hH := hO.out.bel hb
    obtain ⟨c0, f0⟩ := hH.one 0 rfl
    obtain ⟨c1, f1⟩ := hH.one 1 rfl
    obtain ⟨c2, f2⟩ := hH.one 2 rfl
    obtain ⟨c3, f3⟩ := hH.one 3 rfl
    have h1 := Lib.hid (show Below B w u1 from hA.out.trans (hb.mono (Nat.le_of_lt hz)))
    have hH := Lib.hid hH
    clear hb hO hA UT EV
    go_wp2
    have hF := (((hH.out.set 0 (.string ⟨#[]⟩) (by simp)).set 1 (.int .i64 0) (by simp)).set 2 (.int .i64 0) (by simp)).set 3 (.int .i64 0) (by simp)
    have hL := Lib.hid ((((h1.out.setCell (p := ⟨B, 0, none⟩) (Nat.le_refl B) (.string ⟨#[]⟩)).setCell (p := ⟨B, 1, none⟩) (Nat.le_refl B) (.int .i64 0)).setCell (p := ⟨B, 2, none⟩) (Nat.le_refl B) (.int .i64 0)).setCell (p := ⟨B, 3, none⟩) (Nat.le_refl B) (.int .i64 0))
    generalize (((u1.setCell ⟨B, 0, none⟩ (.string ⟨#[]⟩)).setCell ⟨B, 1, none⟩ (.int .i64 0)).setCell ⟨B, 2, none⟩ (.int .i64 0)).setCell ⟨B, 3, none⟩ (.int .i64 0) = u2 at *
    have d0 := (hF.one 0 rfl).1
    have d1 := (hF.one 1 rfl).1
    have d2 := (hF.one 2 rfl).1
    have d3 := (hF.one 3 rfl).1
    refine bodyPost_ret (v := .tuple #[.agg #[.string ⟨#[]⟩, .int .i64 0, .int .i64 0, .int .i64 0], .bool false]) (by simp [results, Tryd.results64, go_sem, d0, d1, d2, d3]) rfl ⟨rfl, ?_⟩
    rw [eB]
    exact hL.out
set_option maxRecDepth 100000 in
set_option maxHeartbeats 8000000 in
theorem ulook_ok (u : Int) (w : World) (h : unB u = true) : Calls Tryd.prog 64 #[.int .i64 u] w fun e w' => e = .returned (.tuple #[.agg #[.string (uN u.toNat), .int .i64 (uK u.toNat), .int .i64 (uA u.toNat), .int .i64 (uB u.toNat)], .bool true]) ∧ Below w.heap.size w w' := by
  have h := of_decide_eq_true h
  obtain ⟨k, rfl⟩ : ∃ k : Nat, u = (k : Int) := ⟨u.toNat, by omega⟩
  rw [Int.toNat_natCast]
  obtain ⟨n0, e0⟩ : ∃ n0, uN k = n0 := ⟨_, rfl⟩
  obtain ⟨n1, e1⟩ : ∃ n1, uK k = n1 := ⟨_, rfl⟩
  obtain ⟨n2, e2⟩ : ∃ n2, uA k = n2 := ⟨_, rfl⟩
  obtain ⟨n3, e3⟩ : ∃ n3, uB k = n3 := ⟨_, rfl⟩
  have EE := Lib.hid (And.intro e0 (And.intro e1 (And.intro e2 e3)))
  rw [e0, e1, e2, e3]
  clear e0 e1 e2 e3
  have UT := Lib.hid (utable (w.alloc (.cells #[.string ⟨#[]⟩, .int .i64 0, .int .i64 0, .int .i64 0] 103)))
  have hA := (Below.refl w.heap.size w).alloc (Nat.le_refl _) (.cells #[.string ⟨#[]⟩, .int .i64 0, .int .i64 0, .int .i64 0] 103)
  have hO : Held w.heap.size [.string ⟨#[]⟩, .int .i64 0, .int .i64 0, .int .i64 0] (w.alloc (.cells #[.string ⟨#[]⟩, .int .i64 0, .int .i64 0, .int .i64 0] 103)) := Held.new w [.string ⟨#[]⟩, .int .i64 0, .int .i64 0, .int .i64 0] 103
  obtain ⟨V, eV⟩ : ∃ V, V = w.alloc (.cells #[.string ⟨#[]⟩, .int .i64 0, .int .i64 0, .int .i64 0] 103) := ⟨_, rfl⟩
  have EV := Lib.hid eV
  obtain ⟨B, eB⟩ : ∃ B, w.heap.size = B := ⟨_, rfl⟩
  have hz : B < V.heap.size := by rw [eV, ← eB]; simp
  rw [← eV] at UT hA hO
  rw [eB] at hA hO
  clear eV
  have hA := Lib.hid hA
  have hO := Lib.hid hO
  · have y0 : decide ((k : Int) < 0) = false := decide_eq_false (by omega)
    have y1 : decide (15 ≤ (k : Int)) = false := decide_eq_false (by omega)
    have y2 : (k : Int) < 15 := by omega
    have y3 : 0 ≤ (k : Int) := by omega
    go_enter Tryd.func64, Tryd.ntmps64
    go_wp2_with fail
    rw [← EV.out]
    refine UT.out.mono ?_
    rintro e u1 ⟨g, rfl, hT, hb⟩
    have hH := hO.out.bel hb
    obtain ⟨c0, f0⟩ := hH.one 0 rfl
    obtain ⟨c1, f1⟩ := hH.one 1 rfl
    obtain ⟨c2, f2⟩ := hH.one 2 rfl
    obtain ⟨c3, f3⟩ := hH.one 3 rfl
    have h1 := Lib.hid (show Below B w u1 from hA.out.trans (hb.mono (Nat.le_of_lt hz)))
    have hH := Lib.hid hH
    clear hb hO hA UT EV
    obtain ⟨x0, x1, x2, x3⟩ := hT.2 k (by omega)
    have hg := hT.1
    clear hT
    rw [EE.out.1] at x0
    rw [EE.out.2.1] at x1
    rw [EE.out.2.2.1] at x2
    rw [EE.out.2.2.2] at x3
    go_wp2
    have hF := (((hH.out.set 0 (.string n0) (by simp)).set 1 (.int .i64 n1) (by simp)).set 2 (.int .i64 n2) (by simp)).set 3 (.int .i64 n3) (by simp)
    have hL := Lib.hid ((((h1.out.setCell (p := ⟨B, 0, none⟩) (Nat.le_refl B) (.string n0)).setCell (p := ⟨B, 1, none⟩) (Nat.le_refl B) (.int .i64 n1)).setCell (p := ⟨B, 2, none⟩) (Nat.le_refl B) (.int .i64 n2)).setCell (p := ⟨B, 3, none⟩) (Nat.le_refl B) (.int .i64 n3))
    generalize (((u1.setCell ⟨B, 0, none⟩ (.string n0)).setCell ⟨B, 1, none⟩ (.int .i64 n1)).setCell ⟨B, 2, none⟩ (.int .i64 n2)).setCell ⟨B, 3, none⟩ (.int .i64 n3) = u2 at *
    have d0 := (hF.one 0 rfl).1
    have d1 := (hF.one 1 rfl).1
    have d2 := (hF.one 2 rfl).1
    have d3 := (hF.one 3 rfl).1
    refine bodyPost_ret (v := .tuple #[.agg #[.string n0, .int .i64 n1, .int .i64 n2, .int .i64 n3], .bool true]) (by simp [results, Tryd.results64, go_sem, d0, d1, d2, d3]) rfl ⟨rfl, ?_⟩
    rw [eB]
    exact hL.out
theorem unB_k {u : Int} (h : unB u = true) : ∃ k : Nat, u = (k : Int) ∧ k < 15 := by
  have h := of_decide_eq_true h
  exact ⟨u.toNat, by omega, by omega⟩
/-- What is looked up: its name and kind. -/
def uNm (u : Int) : ByteArray := if unB u = true then uN u.toNat else ⟨#[]⟩
def uKd (u : Int) : Int := if unB u = true then uK u.toNat else 0
set_option maxRecDepth 100000 in
set_option maxHeartbeats 8000000 in
theorem uname (u : Int) (w : World) : Calls Tryd.prog 20 #[.int .i64 u] w fun e w' => e = .returned (.string (uNm u)) ∧ Below w.heap.size w w' := by
  cases hU : unB u with
  | true =>
    have LO := Lib.hid (ulook_ok u w hU)
    rw [show uNm u = uN u.toNat from if_pos hU]
    generalize uN u.toNat = n0 at *
    generalize uK u.toNat = n1 at *
    generalize uA u.toNat = n2 at *
    generalize uB u.toNat = n3 at *
    go_enter Tryd.func20, Tryd.ntmps20
    go_wp2_with fail
    refine LO.out.mono ?_
    rintro e u1 ⟨rfl, hb⟩
    have h2 := Lib.hid (hb.alloc hb.size (.cells #[.string n0, .int .i64 n1, .int .i64 n2, .int .i64 n3] 103))
    clear hb
    go_wp2
    go_ret
    exact ⟨rfl, h2.out⟩
  | false =>
    have LO := Lib.hid (ulook_no u w hU)
    rw [show uNm u = ⟨#[]⟩ from if_neg (by rw [hU]; simp)]
    go_enter Tryd.func20, Tryd.ntmps20
    go_wp2_with fail
    refine LO.out.mono ?_
    rintro e u1 ⟨rfl, hb⟩
    have h2 := Lib.hid (hb.alloc hb.size (.cells #[.string ⟨#[]⟩, .int .i64 0, .int .i64 0, .int .i64 0] 103))
    clear hb
    go_wp2
    go_ret
    exact ⟨rfl, h2.out⟩
set_option maxRecDepth 100000 in
set_option maxHeartbeats 8000000 in
theorem ukind (u : Int) (w : World) : Calls Tryd.prog 18 #[.int .i64 u] w fun e w' => e = .returned (.tuple #[.int .i64 (uKd u), .bool (unB u)]) ∧ Below w.heap.size w w' := by
  cases hU : unB u with
  | true =>
    have LO := Lib.hid (ulook_ok u w hU)
    rw [show uKd u = uK u.toNat from if_pos hU]
    generalize uN u.toNat = n0 at *
    generalize uK u.toNat = n1 at *
    generalize uA u.toNat = n2 at *
    generalize uB u.toNat = n3 at *
    go_enter Tryd.func18, Tryd.ntmps18
    go_wp2_with fail
    refine LO.out.mono ?_
    rintro e u1 ⟨rfl, hb⟩
    have h2 := Lib.hid (hb.alloc hb.size (.cells #[.string n0, .int .i64 n1, .int .i64 n2, .int .i64 n3] 103))
    clear hb
    go_wp2
    go_ret2
    exact ⟨rfl, h2.out⟩
  | false =>
    have LO := Lib.hid (ulook_no u w hU)
    rw [show uKd u = 0 from if_neg (by rw [hU]; simp)]
    go_enter Tryd.func18, Tryd.ntmps18
    go_wp2_with fail
    refine LO.out.mono ?_
    rintro e u1 ⟨rfl, hb⟩
    have h2 := Lib.hid (hb.alloc hb.size (.cells #[.string ⟨#[]⟩, .int .i64 0, .int .i64 0, .int .i64 0] 103))
    clear hb
    go_wp2
    go_ret2
    exact ⟨rfl, h2.out⟩
end Go.Proofs.YtfejdbmamaggpaaDoor
