/- The greatest error of a sheet; walked. Which corrections may be; walked. Which corrections may be, the document's; walked. The error at a place, the worst one; walked. What remains for the impact pressure; walked. The corrected pressure by rounds: as numbers. The corrected pressure by rounds; walked. The corrected pressures, the measured ones; the document's; walked. -/
import Derived.Test.YticecjjlafmclaaSheet3
import Derived.Deep.Cut
import Derived.Test.YticecjjlafmclaaSheet5
import Derived.Test.YticecjjlafmclaaMach5
import Derived.Test.YticecjjlafmclaaClip09
import Derived.Test.YticecjjlafmclaaMach6
namespace Go.Proofs.Yticecjjlafmclaa
open Go.ChangeShapes Go.WideShapes Go.ChangeAt Go.RowKit
set_option linter.unusedVariables false
set_option linter.unusedSimpArgs false

def wsF (m z : Int) : Int := if -z > (if z > m then z else m) then -z else if z > m then z else m
theorem run_wsF (m z : Int) (w : World) : Sem.run Try.prog (Builtin.max_ #[2, 2, 2] 2 #[.int .i64 m, .int .i64 z, .int .i64 (-z)]) w = .ok (.int .i64 (wsF m z)) w := rfl
def wsR (m : Int) (R : List Int) : Int := R.foldl wsF m
/-- The greatest absolute value of a table. -/
def wsZ (Z : List (List Int)) : Int := Z.foldl wsR 0
theorem wsR_snoc (m : Int) {R : List Int} {k : Nat} (h : k < R.length) : wsR m (R.take (k + 1)) = wsF (wsR m (R.take k)) (R.getD k 0) := by
  unfold wsR
  rw [rows_snoc 0 h, List.foldl_append]
  rfl
theorem wsZ_snoc {Z : List (List Int)} {j : Nat} (h : j < Z.length) : wsZ (Z.take (j + 1)) = wsR (wsZ (Z.take j)) (Z.getD j []) := by
  unfold wsZ
  rw [rows_snoc [] h, List.foldl_append]
  rfl
theorem ssw_box (w : World) (a1 a2 a3 : Option Addr) (e1 e2 e3 : Nat) (X Y : List Int) (Z : List (List Int)) (r : Int) : ∃ V, V = (w.alloc (.cells #[.slice a1 X.length e1, .slice a2 Y.length e2, .slice a3 Z.length e3, .int .i64 r] 29)) ∧ Below w.heap.size w V ∧ V.heap.size = w.heap.size + 1 ∧ ∀ u, Below (w.heap.size + 1) V u → u.cell? ⟨w.heap.size, 0, none⟩ = some (.slice a1 X.length e1) ∧ u.cell? ⟨w.heap.size, 1, none⟩ = some (.slice a2 Y.length e2) ∧ u.cell? ⟨w.heap.size, 2, none⟩ = some (.slice a3 Z.length e3) ∧ u.cell? ⟨w.heap.size, 3, none⟩ = some (.int .i64 r) :=
  ⟨_, rfl, (by repeat (first | exact Below.refl _ _ | assumption | apply Below.drew | apply below_drewN | (refine Below.alloc ?_ (by first | exact Nat.le_refl _ | omega | (simp <;> omega)) _) | (refine Below.setCell ?_ (by first | exact Nat.le_refl _ | omega | (simp <;> omega)) _))), by simp, fun u hu => ⟨(bc hu (by omega)).trans (by go_simp), (bc hu (by omega)).trans (by go_simp), (bc hu (by omega)).trans (by go_simp), (bc hu (by omega)).trans (by go_simp)⟩⟩
set_option maxRecDepth 100000 in
set_option maxHeartbeats 8000000 in
theorem ssworst (a1 a2 a3 : Option Addr) (GA : Nat → Option Addr) (GC : Nat → Nat) (e1 e2 e3 : Nat) (X Y : List Int) (Z : List (List Int)) (r : Int) (m : Nat) (w : World) (hg : GridIs .i64 w a3 GA GC Z) (hm : m ≤ 16) (hZ : Z.length ≤ 16) (hR : ∀ i, i < Z.length → (Z.getD i []).length = m ∧ ∀ k, k < m → -549755813887 ≤ (Z.getD i []).getD k 0 ∧ (Z.getD i []).getD k 0 ≤ 549755813887) :
    Calls Try.prog 31 #[.agg #[.slice a1 X.length e1, .slice a2 Y.length e2, .slice a3 Z.length e3, .int .i64 r]] w fun e w' => e = .returned (.int .i64 (wsZ Z)) ∧ Below w.heap.size w w' := by
  obtain ⟨V, eV, hb0, hz, hcs⟩ := ssw_box w a1 a2 a3 e1 e2 e3 X Y Z r
  have GG := Lib.hid (fun u (h : Below (w.heap.size + 1) V u) => fun i (hi : i < Z.length) => (hg.below (hb0.trans (h.mono (by omega)))).at hi)
  have GR := Lib.hid (fun u (h : Below (w.heap.size + 1) V u) => fun i (hi : i < Z.length) => (hg.below (hb0.trans (h.mono (by omega)))).rows i hi)
  have RL := Lib.hid hR
  clear hg hR
  replace hb0 := Lib.hid hb0
  replace hz := Lib.hid hz
  replace hcs := Lib.hid hcs
  replace eV := Lib.hid eV
  go_enter Try.func31, Try.ntmps31
  go_upto_region 1 with (fail)
  rw [← eV.out]
  obtain ⟨k0, k1, k2, k3⟩ := hcs.out _ (Below.refl _ _)
  go_wp2_with fail
  go_loopw [3, 12] (fun s i v => ∃ j : Nat, j ≤ Z.length ∧ s = .int .i64 (wsZ (Z.take j)) ∧ i = .int .i64 (j : Int) ∧ Below (w.heap.size + 1) V v) (fun _ i _ => Z.length - (intOf i).toNat)
  case atStart => exact ⟨0, by omega, rfl, rfl, Below.refl _ _⟩
  case round =>
    clear k0 k1 k2 k3
    obtain ⟨j, hj, rfl, rfl, hb⟩ := hrel
    obtain ⟨k0, k1, k2, k3⟩ := hcs.out _ hb
    by_cases hlt : j < Z.length
    · obtain ⟨bz, oz, ea, -, c9⟩ := GG.out _ hb j hlt
      subst ea
      have l1 : (j : Int) < (Z.length : Int) := by omega
      have l0 : 0 ≤ (j : Int) := by omega
      have l16 : (Z.length : Int) ≤ 16 := by omega
      have SN := Lib.hid (wsZ_snoc hlt)
      obtain ⟨rl, rb⟩ := RL.out j hlt
      have GJ := Lib.hid (fun u h => GR.out u h j hlt)
      rw [rl] at c9
      generalize Z.getD j [] = R at *
      generalize wsZ (Z.take j) = s0 at *
      replace rb := Lib.hid rb
      replace rl := Lib.hid rl
      go_wp2_with fail
      clear c9
      go_loopw [3, 18] (fun s i v => ∃ k : Nat, k ≤ m ∧ s = .int .i64 (wsR s0 (R.take k)) ∧ i = .int .i64 (k : Int) ∧ Below (w.heap.size + 1) V v) (fun _ i _ => m - (intOf i).toNat)
      case atStart => exact ⟨0, by omega, rfl, rfl, hb⟩
      case round =>
        clear hb k0 k1 k2 k3
        obtain ⟨k, hk, rfl, rfl, hb⟩ := hrel
        by_cases hlk : k < m
        · obtain ⟨br, or_, er, -, c8⟩ := (GJ.out _ hb).at (show k < R.length by rw [rl.out]; exact hlk)
          have k1 : (k : Int) < (m : Int) := by omega
          have k0 : 0 ≤ (k : Int) := by omega
          have m16 : (m : Int) ≤ 16 := by omega
          have SK := Lib.hid (wsR_snoc s0 (R := R) (k := k) (by rw [rl.out]; exact hlk))
          obtain ⟨b1, b2⟩ := rb.out k hlk
          generalize R.getD k 0 = z at *
          generalize wsR s0 (R.take k) = s1 at *
          have hw : IntKind.i64.wrap (-z) = -z := by rw [IntKind.wrap_i64]; omega
          have hmx := fun w => run_wsF s1 z w
          rw [er] at *
          clear b1 b2
          go_wp2
          go_roundw
          case rel => exact ⟨k + 1, by omega, by rw [SK.out], by go_num, hb⟩
          case measure => simp [intOf]; omega
        · have hge : (m : Int) ≤ (k : Int) := by omega
          have ek : R.take k = R := List.take_of_length_le (by rw [rl.out]; omega)
          rw [ek]
          have l16 : (Z.length : Int) ≤ 16 := by omega
          replace ek := 0
          go_wp2
          go_roundw
          case rel => exact ⟨j + 1, by omega, by rw [SN.out], by go_num, hb⟩
          case measure => simp [intOf]; omega
    · have hge : (Z.length : Int) ≤ (j : Int) := by omega
      have ej : Z.take j = Z := List.take_of_length_le (by omega)
      rw [ej]
      replace ej := 0
      have hb9 := Lib.hid (hb0.out.trans (hb.mono (by omega)))
      go_wp2
      go_ret
      exact ⟨rfl, hb9.out⟩
end Go.Proofs.Yticecjjlafmclaa
namespace Go.Proofs.Yticecjjlafmclaa
open Go.ChangeShapes Go.WideShapes Go.ChangeAt Go.RowKit
set_option linter.unusedVariables false
set_option linter.unusedSimpArgs false

/-- May a correction be? -/
def scB (r : Int) (X Y : List Int) (Z : List (List Int)) : Bool := decide (1 ≤ r) && (decide (r ≤ 8) && (shB X Y Z && decide (wsZ Z ≤ 100000)))
theorem wsF_le {m z c : Int} : wsF m z ≤ c ↔ m ≤ c ∧ -c ≤ z ∧ z ≤ c := by
  unfold wsF
  constructor
  · intro h
    split at h <;> split at h <;> first | omega | (split at h <;> omega)
  · intro h
    split
    · omega
    · split <;> omega
theorem wsR_le (R : List Int) : ∀ (m c : Int), wsR m R ≤ c ↔ m ≤ c ∧ ∀ z ∈ R, -c ≤ z ∧ z ≤ c := by
  induction R with
  | nil => intro m c; simp [wsR]
  | cons z R ih =>
    intro m c
    show wsR (wsF m z) R ≤ c ↔ _
    rw [ih, wsF_le]
    simp only [List.mem_cons, forall_eq_or_imp]
    exact ⟨fun ⟨⟨a, b⟩, d⟩ => ⟨a, b, d⟩, fun ⟨a, b, d⟩ => ⟨⟨a, b⟩, d⟩⟩
theorem wsL_le (Z : List (List Int)) : ∀ (m c : Int), Z.foldl wsR m ≤ c ↔ m ≤ c ∧ ∀ R ∈ Z, ∀ z ∈ R, -c ≤ z ∧ z ≤ c := by
  induction Z with
  | nil => intro m c; simp
  | cons R Z ih =>
    intro m c
    rw [List.foldl_cons, ih, wsR_le]
    simp only [List.mem_cons, forall_eq_or_imp]
    exact ⟨fun ⟨⟨a, b⟩, d⟩ => ⟨a, b, d⟩, fun ⟨a, b, d⟩ => ⟨⟨a, b⟩, d⟩⟩
/-- The worst error is no greater than c: every error is within c. -/
theorem wsZ_le (Z : List (List Int)) {c : Int} (hc : 0 ≤ c) : wsZ Z ≤ c ↔ ∀ R ∈ Z, ∀ z ∈ R, -c ≤ z ∧ z ≤ c := by
  unfold wsZ
  rw [wsL_le]
  exact ⟨fun h => h.2, fun h => ⟨hc, h⟩⟩
theorem ssr_box (w : World) (a1 a2 a3 : Option Addr) (e1 e2 e3 : Nat) (X Y : List Int) (Z : List (List Int)) (r : Int) : ∃ V, V = (w.alloc (.cells #[.slice a1 X.length e1, .slice a2 Y.length e2, .slice a3 Z.length e3, .int .i64 r] 29)) ∧ Below w.heap.size w V ∧ V.heap.size = w.heap.size + 1 ∧ ∀ u, Below (w.heap.size + 1) V u → u.cell? ⟨w.heap.size, 0, none⟩ = some (.slice a1 X.length e1) ∧ u.cell? ⟨w.heap.size, 1, none⟩ = some (.slice a2 Y.length e2) ∧ u.cell? ⟨w.heap.size, 2, none⟩ = some (.slice a3 Z.length e3) ∧ u.cell? ⟨w.heap.size, 3, none⟩ = some (.int .i64 r) :=
  ⟨_, rfl, (by repeat (first | exact Below.refl _ _ | assumption | apply Below.drew | apply below_drewN | (refine Below.alloc ?_ (by first | exact Nat.le_refl _ | omega | (simp <;> omega)) _) | (refine Below.setCell ?_ (by first | exact Nat.le_refl _ | omega | (simp <;> omega)) _))), by simp, fun u hu => ⟨(bc hu (by omega)).trans (by go_simp), (bc hu (by omega)).trans (by go_simp), (bc hu (by omega)).trans (by go_simp), (bc hu (by omega)).trans (by go_simp)⟩⟩
set_option maxRecDepth 100000 in
set_option maxHeartbeats 8000000 in
theorem sscright (a1 a2 a3 : Option Addr) (GA : Nat → Option Addr) (GC : Nat → Nat) (e1 e2 e3 : Nat) (X Y : List Int) (Z : List (List Int)) (r : Int) (w : World) (hx : RowIs .i64 w a1 X) (hy : RowIs .i64 w a2 Y) (hg : GridIs .i64 w a3 GA GC Z) (hX : X.length ≤ 50) (hY : Y.length ≤ 50) (hZ : Z.length ≤ 50) (hR : ∀ i, i < Z.length → (Z.getD i []).length ≤ 50) : Calls Try.prog 10 #[.agg #[.slice a1 X.length e1, .slice a2 Y.length e2, .slice a3 Z.length e3, .int .i64 r]] w fun e w' => e = .returned (.bool (scB r X Y Z)) ∧ Below w.heap.size w w' := by
  obtain ⟨V, eV, hb0, hz, hcs⟩ := ssr_box w a1 a2 a3 e1 e2 e3 X Y Z r
  have RT := Lib.hid (fun u (h : Below (w.heap.size + 1) V u) => sright a1 a2 a3 GA GC e1 e2 e3 X Y Z u (hx.below (hb0.trans (h.mono (by omega)))) (hy.below (hb0.trans (h.mono (by omega)))) (hg.below (hb0.trans (h.mono (by omega)))) hX hY hZ hR)
  have WR := Lib.hid (fun (hs : shB X Y Z = true) u (h : Below (w.heap.size + 1) V u) => ssworst a1 a2 a3 GA GC e1 e2 e3 X Y Z r Y.length u (hg.below (hb0.trans (h.mono (by omega)))) (shB_at hs).2.2.2.1 (by have := shB_at hs; omega) (fun i hi => by
    obtain ⟨_, _, l, _, _, q⟩ := rgtB_at ((shB_at hs).2.2.2.2.2 i hi)
    exact ⟨l, fun k hk => of_decide_eq_true q k (by omega)⟩))
  clear hx hy hg hX hY hZ hR
  unfold scB
  rcases (show r < 1 ∨ (1 ≤ r ∧ 8 < r) ∨ (1 ≤ r ∧ r ≤ 8) by omega) with h | ⟨h, h2⟩ | ⟨h, h2⟩
  · rw [show (decide (1 ≤ r) && (decide (r ≤ 8) && (shB X Y Z && decide (wsZ Z ≤ 100000)))) = false from by rw [decide_eq_false (show ¬ 1 ≤ r by omega)]; rfl]
    clear RT WR
    replace hb0 := Lib.hid hb0
    replace hz := Lib.hid hz
    replace hcs := Lib.hid hcs
    replace eV := Lib.hid eV
    go_enter Try.func10, Try.ntmps10
    go_wp2_with fail
    rw [← eV.out]
    obtain ⟨k0, k1, k2, k3⟩ := hcs.out _ (Below.refl _ _)
    go_wp2
    go_ret
    exact ⟨rfl, hb0.out⟩
  · rw [show (decide (1 ≤ r) && (decide (r ≤ 8) && (shB X Y Z && decide (wsZ Z ≤ 100000)))) = false from by rw [decide_eq_false (show ¬ r ≤ 8 by omega), Bool.false_and, Bool.and_false]]
    clear RT WR
    replace hb0 := Lib.hid hb0
    replace hz := Lib.hid hz
    replace hcs := Lib.hid hcs
    replace eV := Lib.hid eV
    go_enter Try.func10, Try.ntmps10
    go_wp2_with fail
    rw [← eV.out]
    obtain ⟨k0, k1, k2, k3⟩ := hcs.out _ (Below.refl _ _)
    go_wp2
    go_ret
    exact ⟨rfl, hb0.out⟩
  · rw [decide_eq_true h, decide_eq_true h2, Bool.true_and, Bool.true_and]
    cases hs : shB X Y Z
    · rw [hs] at RT
      rw [Bool.false_and]
      clear WR hs
      replace hb0 := Lib.hid hb0
      replace hz := Lib.hid hz
      replace hcs := Lib.hid hcs
      replace eV := Lib.hid eV
      go_enter Try.func10, Try.ntmps10
      go_wp2_with fail
      rw [← eV.out]
      obtain ⟨k0, k1, k2, k3⟩ := hcs.out _ (Below.refl _ _)
      go_wp2_with fail
      refine (RT.out _ (Below.refl _ _)).mono ?_
      rintro e w1 ⟨rfl, hb1⟩
      have hb1 := (Below.refl (w.heap.size + 1) V).trans (hb1.mono (Nat.le_of_eq hz.out.symm))
      obtain ⟨k0, k1, k2, k3⟩ := hcs.out _ hb1
      go_wp2
      go_ret
      exact ⟨rfl, hb0.out.trans (hb1.mono (by omega))⟩
    · rw [hs] at RT
      rw [Bool.true_and]
      have W9 := Lib.hid (WR.out hs)
      clear WR hs
      generalize wsZ Z = n at *
      replace hb0 := Lib.hid hb0
      replace hz := Lib.hid hz
      replace hcs := Lib.hid hcs
      replace eV := Lib.hid eV
      go_enter Try.func10, Try.ntmps10
      go_wp2_with fail
      rw [← eV.out]
      obtain ⟨k0, k1, k2, k3⟩ := hcs.out _ (Below.refl _ _)
      go_wp2_with fail
      refine (RT.out _ (Below.refl _ _)).mono ?_
      rintro e w1 ⟨rfl, hb1⟩
      have hb1 := (Below.refl (w.heap.size + 1) V).trans (hb1.mono (Nat.le_of_eq hz.out.symm))
      obtain ⟨k0, k1, k2, k3⟩ := hcs.out _ hb1
      go_wp2_with fail
      refine (W9.out _ hb1).mono ?_
      rintro e w2 ⟨rfl, hb2⟩
      have hb2 := hb1.trans (hb2.mono (by have := hb1.size; have := hz.out; omega))
      clear hb1
      obtain ⟨k0, k1, k2, k3⟩ := hcs.out _ hb2
      go_wp2
      go_ret
      exact ⟨rfl, hb0.out.trans (hb2.mono (by omega))⟩
end Go.Proofs.Yticecjjlafmclaa
namespace Go.Proofs.Yticecjjlafmclaa
open Go.ChangeShapes Go.WideShapes Go.ChangeAt Go.RowKit
set_option linter.unusedVariables false
set_option linter.unusedSimpArgs false

theorem mem_getD {α : Type} {l : List α} {x d : α} (h : x ∈ l) : ∃ i, i < l.length ∧ l.getD i d = x := by
  obtain ⟨i, hi, e⟩ := List.getElem_of_mem h
  exact ⟨i, hi, by simp [List.getD, hi, e]⟩
theorem getD_mem {α : Type} {l : List α} (d : α) {i : Nat} (h : i < l.length) : l.getD i d ∈ l := by
  rw [show l.getD i d = l[i] from by simp [List.getD, h]]
  exact List.getElem_mem h
theorem src_box (w : World) (a1 a2 a3 : Option Addr) (e1 e2 e3 : Nat) (X Y : List Int) (Z : List (List Int)) : ∃ V, V = (w.alloc (.cells #[.slice a1 X.length e1, .slice a2 Y.length e2, .slice a3 Z.length e3] 26)) ∧ Below w.heap.size w V ∧ V.heap.size = w.heap.size + 1 ∧ ∀ u, Below (w.heap.size + 1) V u → u.cell? ⟨w.heap.size, 0, none⟩ = some (.slice a1 X.length e1) ∧ u.cell? ⟨w.heap.size, 1, none⟩ = some (.slice a2 Y.length e2) ∧ u.cell? ⟨w.heap.size, 2, none⟩ = some (.slice a3 Z.length e3) :=
  ⟨_, rfl, (by repeat (first | exact Below.refl _ _ | assumption | apply Below.drew | apply below_drewN | (refine Below.alloc ?_ (by first | exact Nat.le_refl _ | omega | (simp <;> omega)) _) | (refine Below.setCell ?_ (by first | exact Nat.le_refl _ | omega | (simp <;> omega)) _))), by simp, fun u hu => ⟨(bc hu (by omega)).trans (by go_simp), (bc hu (by omega)).trans (by go_simp), (bc hu (by omega)).trans (by go_simp)⟩⟩
set_option maxRecDepth 100000 in
set_option maxHeartbeats 8000000 in
theorem rsc38 (a1 a2 a3 : Option Addr) (GA : Nat → Option Addr) (GC : Nat → Nat) (e1 e2 e3 : Nat) (X Y : List Int) (Z : List (List Int)) (r : Int) (w : World) (hx : RowIs .i64 w a1 X) (hy : RowIs .i64 w a2 Y) (hg : GridIs .i64 w a3 GA GC Z) (hX : X.length ≤ 50) (hY : Y.length ≤ 50) (hZ : Z.length ≤ 50) (hR : ∀ i, i < Z.length → (Z.getD i []).length ≤ 50) : Calls Try.prog 11 #[.agg #[.slice a1 X.length e1, .slice a2 Y.length e2, .slice a3 Z.length e3], .int .i64 r] w fun e w' => e = .returned (.bool (scB r X Y Z)) ∧ Below w.heap.size w w' := by
  obtain ⟨V, eV, hb0, hz, hcs⟩ := src_box w a1 a2 a3 e1 e2 e3 X Y Z
  have RT := Lib.hid (fun u (h : Below (w.heap.size + 1) V u) => rright06 a1 a2 a3 GA GC e1 e2 e3 X Y Z u (hx.below (hb0.trans (h.mono (by omega)))) (hy.below (hb0.trans (h.mono (by omega)))) (hg.below (hb0.trans (h.mono (by omega)))) hX hY hZ hR)
  have GG := Lib.hid (fun u (h : Below (w.heap.size + 1) V u) => fun i (hi : i < Z.length) => (hg.below (hb0.trans (h.mono (by omega)))).at hi)
  have GR := Lib.hid (fun u (h : Below (w.heap.size + 1) V u) => fun i (hi : i < Z.length) => (hg.below (hb0.trans (h.mono (by omega)))).rows i hi)
  clear hx hy hg hX hY hZ hR
  unfold scB
  rcases (show r < 1 ∨ (1 ≤ r ∧ 8 < r) ∨ (1 ≤ r ∧ r ≤ 8) by omega) with h | ⟨h, h2⟩ | ⟨h, h2⟩
  · rw [show (decide (1 ≤ r) && (decide (r ≤ 8) && (shB X Y Z && decide (wsZ Z ≤ 100000)))) = false from by rw [decide_eq_false (show ¬ 1 ≤ r by omega)]; rfl]
    clear RT GG GR
    replace hb0 := Lib.hid hb0
    replace hz := Lib.hid hz
    replace hcs := Lib.hid hcs
    replace eV := Lib.hid eV
    go_enter Try.func11, Try.ntmps11
    go_wp2_with fail
    rw [← eV.out]
    obtain ⟨k0, k1, k2⟩ := hcs.out _ (Below.refl _ _)
    go_wp2
    go_ret
    exact ⟨rfl, hb0.out⟩
  · rw [show (decide (1 ≤ r) && (decide (r ≤ 8) && (shB X Y Z && decide (wsZ Z ≤ 100000)))) = false from by rw [decide_eq_false (show ¬ r ≤ 8 by omega), Bool.false_and, Bool.and_false]]
    clear RT GG GR
    replace hb0 := Lib.hid hb0
    replace hz := Lib.hid hz
    replace hcs := Lib.hid hcs
    replace eV := Lib.hid eV
    go_enter Try.func11, Try.ntmps11
    go_wp2_with fail
    rw [← eV.out]
    obtain ⟨k0, k1, k2⟩ := hcs.out _ (Below.refl _ _)
    go_wp2
    go_ret
    exact ⟨rfl, hb0.out⟩
  · rw [decide_eq_true h, decide_eq_true h2, Bool.true_and, Bool.true_and]
    cases hs : shB X Y Z
    · rw [hs] at RT
      rw [Bool.false_and]
      clear GG GR hs
      replace hb0 := Lib.hid hb0
      replace hz := Lib.hid hz
      replace hcs := Lib.hid hcs
      replace eV := Lib.hid eV
      go_enter Try.func11, Try.ntmps11
      go_wp2_with fail
      rw [← eV.out]
      obtain ⟨k0, k1, k2⟩ := hcs.out _ (Below.refl _ _)
      go_wp2_with fail
      refine (RT.out _ (Below.refl _ _)).mono ?_
      rintro e w1 ⟨rfl, hb1⟩
      have hb1 := (Below.refl (w.heap.size + 1) V).trans (hb1.mono (Nat.le_of_eq hz.out.symm))
      obtain ⟨k0, k1, k2⟩ := hcs.out _ hb1
      go_wp2
      go_ret
      exact ⟨rfl, hb0.out.trans (hb1.mono (by omega))⟩
    · rw [hs] at RT
      rw [Bool.true_and]
      obtain ⟨s1, s2, s3, s4, s5, s6⟩ := shB_at hs
      have RL := Lib.hid (fun i (hi : i < Z.length) => show (Z.getD i []).length = Y.length from (rgtB_at (s6 i hi)).2.2.1)
      have HF := Lib.hid (fun i k (hi : i < Z.length) (hk : k < Y.length) (h : (Z.getD i []).getD k 0 < -100000 ∨ 100000 < (Z.getD i []).getD k 0) => show decide (wsZ Z ≤ 100000) = false from decide_eq_false fun hh => by
        have := (wsZ_le Z (by omega)).1 hh _ (getD_mem [] hi) _ (getD_mem 0 (show k < (Z.getD i []).length by rw [RL.out i hi]; exact hk))
        omega)
      have HT := Lib.hid (fun (h : ∀ i, i < Z.length → ∀ k, k < Y.length → -100000 ≤ (Z.getD i []).getD k 0 ∧ (Z.getD i []).getD k 0 ≤ 100000) => show decide (wsZ Z ≤ 100000) = true from decide_eq_true ((wsZ_le Z (by omega)).2 fun R hR z hz => by
        obtain ⟨i, hi, rfl⟩ := mem_getD (d := []) hR
        obtain ⟨k, hk, rfl⟩ := mem_getD (d := 0) hz
        exact h i hi k (by rw [RL.out i hi] at hk; exact hk)))
      have NL := Lib.hid (show Z.length ≤ 16 ∧ Y.length ≤ 16 from by omega)
      generalize decide (wsZ Z ≤ 100000) = b at *
      clear hs s1 s2 s3 s4 s5 s6
      replace hb0 := Lib.hid hb0
      replace hz := Lib.hid hz
      replace hcs := Lib.hid hcs
      replace eV := Lib.hid eV
      go_enter Try.func11, Try.ntmps11
      go_wp2_with fail
      rw [← eV.out]
      obtain ⟨k0, k1, k2⟩ := hcs.out _ (Below.refl _ _)
      go_wp2_with fail
      refine (RT.out _ (Below.refl _ _)).mono ?_
      rintro e w1 ⟨rfl, hb1⟩
      have hb1 := (Below.refl (w.heap.size + 1) V).trans (hb1.mono (Nat.le_of_eq hz.out.symm))
      obtain ⟨k0, k1, k2⟩ := hcs.out _ hb1
      go_wp2_with fail
      go_loopw [5] (fun i v => ∃ j : Nat, j ≤ Z.length ∧ i = .int .i64 (j : Int) ∧ Below (w.heap.size + 1) V v ∧ Hid (∀ t, t < j → ∀ k, k < Y.length → -100000 ≤ (Z.getD t []).getD k 0 ∧ (Z.getD t []).getD k 0 ≤ 100000)) (fun i _ => Z.length - (intOf i).toNat)
      case atStart => exact ⟨0, by omega, rfl, hb1, Lib.hid (fun t ht => by omega)⟩
      case round =>
        clear hb1 k0 k1 k2
        obtain ⟨j, hj, rfl, hb, hU⟩ := hrel
        obtain ⟨k0, k1, k2⟩ := hcs.out _ hb
        have b16 : (Z.length : Int) ≤ 16 := by have := NL.out; omega
        have b17 : (Y.length : Int) ≤ 16 := by have := NL.out; omega
        by_cases hlt : j < Z.length
        · have l1 : (j : Int) < (Z.length : Int) := by omega
          have l0 : 0 ≤ (j : Int) := by omega
          go_wp2_with fail
          go_loopw [6] (fun i v => ∃ k : Nat, k ≤ Y.length ∧ i = .int .i64 (k : Int) ∧ Below (w.heap.size + 1) V v ∧ Hid (∀ c, c < k → -100000 ≤ (Z.getD j []).getD c 0 ∧ (Z.getD j []).getD c 0 ≤ 100000)) (fun i _ => Y.length - (intOf i).toNat)
          case atStart => exact ⟨0, by omega, rfl, hb, Lib.hid (fun t ht => by omega)⟩
          case round =>
            clear hb k0 k1 k2
            obtain ⟨k, hk, rfl, hb, hW⟩ := hrel
            obtain ⟨k0, k1, k2⟩ := hcs.out _ hb
            obtain ⟨bz, oz, ez, -, c9⟩ := GG.out _ hb j hlt
            subst ez
            have rl := RL.out j hlt
            by_cases hlk : k < Y.length
            · obtain ⟨br, or_, er, -, c8⟩ := (GR.out _ hb j hlt).at (show k < (Z.getD j []).length by omega)
              rw [rl, er] at c9
              have k1' : (k : Int) < (Y.length : Int) := by omega
              have k0' : 0 ≤ (k : Int) := by omega
              have HF9 := HF.out j k hlt hlk
              have HS := Lib.hid (fun (h : -100000 ≤ (Z.getD j []).getD k 0 ∧ (Z.getD j []).getD k 0 ≤ 100000) c (hc : c < k + 1) => show -100000 ≤ (Z.getD j []).getD c 0 ∧ (Z.getD j []).getD c 0 ≤ 100000 from by
                by_cases e : c = k
                · subst e; exact h
                · exact hW.out c (by omega))
              generalize (Z.getD j []).getD k 0 = z at *
              replace er := Lib.hid er
              have hb9 := Lib.hid (hb0.out.trans (hb.mono (by omega)))
              clear rl
              rcases (show z < -100000 ∨ (-100000 ≤ z ∧ 100000 < z) ∨ (-100000 ≤ z ∧ z ≤ 100000) by omega) with g | ⟨g, g2⟩ | ⟨g, g2⟩
              · have hF := Lib.hid (HF9 (.inl g))
                clear HF9 HS
                go_wp2
                go_ret
                exact ⟨ret_bool hF.out.symm, hb9.out⟩
              · have hF := Lib.hid (HF9 (.inr g2))
                clear HF9 HS
                go_wp2
                go_ret
                exact ⟨ret_bool hF.out.symm, hb9.out⟩
              · replace HS := Lib.hid (HS.out ⟨g, g2⟩)
                clear HF9
                go_wp2
                go_roundw
                case rel => exact ⟨k + 1, by omega, by go_num, hb, HS⟩
                case measure => simp [intOf]; omega
            · rw [rl] at c9
              have hge : (Y.length : Int) ≤ (k : Int) := by omega
              have HS := Lib.hid (show ∀ t, t < j + 1 → ∀ k, k < Y.length → -100000 ≤ (Z.getD t []).getD k 0 ∧ (Z.getD t []).getD k 0 ≤ 100000 from fun t ht c hc => by
                by_cases e : t = j
                · subst e; exact hW.out c (by omega)
                · exact hU.out t (by omega) c hc)
              clear rl
              go_wp2
              go_roundw
              case rel => exact ⟨j + 1, by omega, by go_num, hb, HS⟩
              case measure => simp [intOf]; omega
        · have hge : (Z.length : Int) ≤ (j : Int) := by omega
          have hT := Lib.hid (HT.out (fun i hi => hU.out i (by omega)))
          have hb9 := Lib.hid (hb0.out.trans (hb.mono (by omega)))
          go_wp2
          go_ret
          exact ⟨ret_bool hT.out.symm, hb9.out⟩
end Go.Proofs.Yticecjjlafmclaa
namespace Go.Proofs.Yticecjjlafmclaa
open Go.ChangeShapes Go.WideShapes Go.ChangeAt Go.RowKit
set_option linter.unusedVariables false
set_option linter.unusedSimpArgs false
theorem she4_box (w : World) (a1 a2 a3 : Option Addr) (e1 e2 e3 : Nat) (X Y : List Int) (Z : List (List Int)) : ∃ V, V = (w.alloc (.cells #[.slice a1 X.length e1, .slice a2 Y.length e2, .slice a3 Z.length e3] 26)) ∧ Below w.heap.size w V ∧ V.heap.size = w.heap.size + 1 ∧ ∀ u, Below (w.heap.size + 1) V u → u.cell? ⟨w.heap.size, 0, none⟩ = some (.slice a1 X.length e1) ∧ u.cell? ⟨w.heap.size, 1, none⟩ = some (.slice a2 Y.length e2) ∧ u.cell? ⟨w.heap.size, 2, none⟩ = some (.slice a3 Z.length e3) :=
  ⟨_, rfl, (by repeat (first | exact Below.refl _ _ | assumption | apply Below.drew | apply below_drewN | (refine Below.alloc ?_ (by first | exact Nat.le_refl _ | omega | (simp <;> omega)) _) | (refine Below.setCell ?_ (by first | exact Nat.le_refl _ | omega | (simp <;> omega)) _))), by simp, fun u hu => ⟨(bc hu (by omega)).trans (by go_simp), (bc hu (by omega)).trans (by go_simp), (bc hu (by omega)).trans (by go_simp)⟩⟩
theorem scB_sh {r : Int} {X Y : List Int} {Z : List (List Int)} (h : scB r X Y Z = true) : shB X Y Z = true := by
  unfold scB at h
  simp only [Bool.and_eq_true] at h
  exact h.2.2.1
theorem sse_box (w : World) (a1 a2 a3 : Option Addr) (e1 e2 e3 : Nat) (X Y : List Int) (Z : List (List Int)) (r : Int) : ∃ V, V = (w.alloc (.cells #[.slice a1 X.length e1, .slice a2 Y.length e2, .slice a3 Z.length e3, .int .i64 r] 29)) ∧ Below w.heap.size w V ∧ V.heap.size = w.heap.size + 1 ∧ ∀ u, Below (w.heap.size + 1) V u → u.cell? ⟨w.heap.size, 0, none⟩ = some (.slice a1 X.length e1) ∧ u.cell? ⟨w.heap.size, 1, none⟩ = some (.slice a2 Y.length e2) ∧ u.cell? ⟨w.heap.size, 2, none⟩ = some (.slice a3 Z.length e3) ∧ u.cell? ⟨w.heap.size, 3, none⟩ = some (.int .i64 r) :=
  ⟨_, rfl, (by repeat (first | exact Below.refl _ _ | assumption | apply Below.drew | apply below_drewN | (refine Below.alloc ?_ (by first | exact Nat.le_refl _ | omega | (simp <;> omega)) _) | (refine Below.setCell ?_ (by first | exact Nat.le_refl _ | omega | (simp <;> omega)) _))), by simp, fun u hu => ⟨(bc hu (by omega)).trans (by go_simp), (bc hu (by omega)).trans (by go_simp), (bc hu (by omega)).trans (by go_simp), (bc hu (by omega)).trans (by go_simp)⟩⟩
end Go.Proofs.Yticecjjlafmclaa
namespace Go.Proofs.Yticecjjlafmclaa
open Go.ChangeShapes Go.WideShapes Go.ChangeAt Go.RowKit
set_option linter.unusedVariables false
set_option linter.unusedSimpArgs false
theorem ssi_box (w : World) (a1 a2 a3 : Option Addr) (e1 e2 e3 : Nat) (X Y : List Int) (Z : List (List Int)) (r q p al : Int) : ∃ V, V = (w.alloc (.cells #[.slice a1 X.length e1, .slice a2 Y.length e2, .slice a3 Z.length e3, .int .i64 r, .int .i64 q, .int .i64 p, .int .i64 al] 61)) ∧ Below w.heap.size w V ∧ V.heap.size = w.heap.size + 1 ∧ ∀ u, Below (w.heap.size + 1) V u → u.cell? ⟨w.heap.size, 0, none⟩ = some (.slice a1 X.length e1) ∧ u.cell? ⟨w.heap.size, 1, none⟩ = some (.slice a2 Y.length e2) ∧ u.cell? ⟨w.heap.size, 2, none⟩ = some (.slice a3 Z.length e3) ∧ u.cell? ⟨w.heap.size, 3, none⟩ = some (.int .i64 r) ∧ u.cell? ⟨w.heap.size, 4, none⟩ = some (.int .i64 q) ∧ u.cell? ⟨w.heap.size, 5, none⟩ = some (.int .i64 p) ∧ u.cell? ⟨w.heap.size, 6, none⟩ = some (.int .i64 al) :=
  ⟨_, rfl, (by repeat (first | exact Below.refl _ _ | assumption | apply Below.drew | apply below_drewN | (refine Below.alloc ?_ (by first | exact Nat.le_refl _ | omega | (simp <;> omega)) _) | (refine Below.setCell ?_ (by first | exact Nat.le_refl _ | omega | (simp <;> omega)) _))), by simp, fun u hu => ⟨(bc hu (by omega)).trans (by go_simp), (bc hu (by omega)).trans (by go_simp), (bc hu (by omega)).trans (by go_simp), (bc hu (by omega)).trans (by go_simp), (bc hu (by omega)).trans (by go_simp), (bc hu (by omega)).trans (by go_simp), (bc hu (by omega)).trans (by go_simp)⟩⟩
set_option maxRecDepth 100000 in
set_option maxHeartbeats 8000000 in
theorem sscimpact (a1 a2 a3 : Option Addr) (e1 e2 e3 : Nat) (X Y : List Int) (Z : List (List Int)) (r q p al t : Int) (w : World) (hq : 0 ≤ q ∧ q ≤ 4294967296) (hp : 1 ≤ p ∧ p ≤ 4294967296) (ht : 1 ≤ t ∧ t ≤ 8589934592) : Calls Try.prog 36 #[.agg #[.slice a1 X.length e1, .slice a2 Y.length e2, .slice a3 Z.length e3, .int .i64 r, .int .i64 q, .int .i64 p, .int .i64 al], .int .i64 t] w fun e w' => e = .returned (.int .i64 (max (q + p - t) 0)) ∧ Below w.heap.size w w' := by
  obtain ⟨V, eV, hb0, hz, hcs⟩ := ssi_box w a1 a2 a3 e1 e2 e3 X Y Z r q p al
  have w1 : IntKind.i64.wrap (q + p) = q + p := by rw [IntKind.wrap_i64]; omega
  have w2 : IntKind.i64.wrap (q + p - t) = q + p - t := by rw [IntKind.wrap_i64]; omega
  clear hq hp ht
  replace hb0 := Lib.hid hb0
  replace hz := Lib.hid hz
  replace hcs := Lib.hid hcs
  replace eV := Lib.hid eV
  go_enter Try.func36, Try.ntmps36
  go_wp2_with fail
  rw [← eV.out]
  obtain ⟨k0, k1, k2, k3, k4, k5, k6⟩ := hcs.out _ (Below.refl _ _)
  go_wp2
  go_ret
  exact ⟨rfl, hb0.out⟩
end Go.Proofs.Yticecjjlafmclaa
namespace Go.Proofs.Yticecjjlafmclaa
open Go.ChangeShapes Go.WideShapes Go.ChangeAt Go.RowKit
set_option linter.unusedVariables false
set_option linter.unusedSimpArgs false

theorem wsZ_nn (Z : List (List Int)) : 0 ≤ wsZ Z := ((wsL_le Z 0 (wsZ Z)).1 (Int.le_refl _)).1
theorem wsZ_all (Z : List (List Int)) {i k : Nat} (hi : i < Z.length) (hk : k < (Z.getD i []).length) : -wsZ Z ≤ (Z.getD i []).getD k 0 ∧ (Z.getD i []).getD k 0 ≤ wsZ Z :=
  (wsZ_le Z (wsZ_nn Z)).1 (Int.le_refl _) _ (getD_mem [] hi) _ (getD_mem 0 hk)
/-- The error at two pressures, if the static one is t. -/
noncomputable def erF (X Y : List Int) (Z : List (List Int)) (q p al t : Int) : Int := crF X (cuL Y Z al) (maV (max (q + p - t) 0) t)
theorem erF_in {X Y : List Int} {Z : List (List Int)} (hs : shB X Y Z = true) (q p al t : Int) : -wsZ Z ≤ erF X Y Z q p al t ∧ erF X Y Z q p al t ≤ wsZ Z :=
  sheet_in hs _ _ (fun i hi k hk => wsZ_all Z hi hk)
theorem scB_ws {r : Int} {X Y : List Int} {Z : List (List Int)} (h : scB r X Y Z = true) : 1 ≤ r ∧ r ≤ 8 ∧ wsZ Z ≤ 100000 := by
  unfold scB at h
  simp only [Bool.and_eq_true, decide_eq_true_eq] at h
  exact ⟨h.1, h.2.1, h.2.2.2⟩
theorem erF_bd {r : Int} {X Y : List Int} {Z : List (List Int)} (h : scB r X Y Z = true) (q p al t : Int) : -100000 ≤ erF X Y Z q p al t ∧ erF X Y Z q p al t ≤ 100000 := by
  have a := erF_in (scB_sh h) q p al t
  have b := scB_ws h
  generalize erF X Y Z q p al t = e at *
  generalize wsZ Z = n at *
  omega
/-- The static pressure behind so many rounds. -/
noncomputable def stF (X Y : List Int) (Z : List (List Int)) (q p al : Int) : Nat → Int
  | 0 => p
  | n + 1 => max (p - erF X Y Z q p al (stF X Y Z q p al n)) 1
theorem stF_bd {r : Int} {X Y : List Int} {Z : List (List Int)} (h : scB r X Y Z = true) (q al : Int) {p : Int} (hp : 1 ≤ p ∧ p ≤ 4294967296) (n : Nat) : 1 ≤ stF X Y Z q p al n ∧ stF X Y Z q p al n ≤ 4295067296 := by
  cases n with
  | zero => exact ⟨hp.1, by show p ≤ _; omega⟩
  | succ n =>
    show 1 ≤ max (p - erF X Y Z q p al (stF X Y Z q p al n)) 1 ∧ max (p - erF X Y Z q p al (stF X Y Z q p al n)) 1 ≤ 4295067296
    have := erF_bd h q p al (stF X Y Z q p al n)
    generalize erF X Y Z q p al (stF X Y Z q p al n) = e at *
    omega
theorem stF_near {r : Int} {X Y : List Int} {Z : List (List Int)} (h : scB r X Y Z = true) (q al : Int) {p : Int} (hp : 100001 ≤ p) (n : Nat) : p - stF X Y Z q p al n ≤ wsZ Z ∧ stF X Y Z q p al n - p ≤ wsZ Z := by
  have w0 := wsZ_nn Z
  cases n with
  | zero =>
    show p - p ≤ wsZ Z ∧ p - p ≤ wsZ Z
    omega
  | succ n =>
    show p - max (p - erF X Y Z q p al (stF X Y Z q p al n)) 1 ≤ wsZ Z ∧ max (p - erF X Y Z q p al (stF X Y Z q p al n)) 1 - p ≤ wsZ Z
    have a := erF_in (scB_sh h) q p al (stF X Y Z q p al n)
    have := erF_bd h q p al (stF X Y Z q p al n)
    generalize erF X Y Z q p al (stF X Y Z q p al n) = e at *
    generalize wsZ Z = m at *
    omega
/-- Clipped, as the program does. -/
def clQ (q : Int) : Int := min (max q 0) 4294967296
def clP (p : Int) : Int := min (max p 1) 4294967296
theorem clQ_bd (q : Int) : 0 ≤ clQ q ∧ clQ q ≤ 4294967296 := by unfold clQ; omega
theorem clP_bd (p : Int) : 1 ≤ clP p ∧ clP p ≤ 4294967296 := by unfold clP; omega
theorem clQ_eq (q : Int) : c09 q 0 4294967296 = clQ q := by unfold clQ c09; omega
theorem clP_eq (p : Int) : c09 p 1 4294967296 = clP p := by unfold clP c09; omega
theorem erF_const {X Y : List Int} {Z : List (List Int)} (hs : shB X Y Z = true) {n : Int} (h : ∀ i, i < Z.length → ∀ k, k < (Z.getD i []).length → (Z.getD i []).getD k 0 = n) (q p al t : Int) : erF X Y Z q p al t = n := by
  have := sheet_in hs (maV (max (q + p - t) 0) t) al (lo := n) (hi := n) (fun i hi k hk => by rw [h i hi k hk]; exact ⟨Int.le_refl _, Int.le_refl _⟩)
  unfold erF
  omega
/-- A sheet of one error. -/
def flX : List Int := [0, 20000]
def flY : List Int := [-1, 1]
def flN (n : Int) : List (List Int) := [[n, n], [n, n]]
theorem flN_all (n : Int) : ∀ i, i < (flN n).length → ∀ k, k < ((flN n).getD i []).length → ((flN n).getD i []).getD k 0 = n := by
  intro i hi k hk
  have h2 : i < 2 := hi
  rcases (show i = 0 ∨ i = 1 by omega) with rfl | rfl
  · have h3 : k < 2 := hk
    rcases (show k = 0 ∨ k = 1 by omega) with rfl | rfl <;> rfl
  · have h3 : k < 2 := hk
    rcases (show k = 0 ∨ k = 1 by omega) with rfl | rfl <;> rfl
theorem fl640 : scB 1 flX flY (flN 640) = true := by decide +kernel
theorem fl0 : shB flX flY (flN 0) = true := by decide +kernel
theorem fl0r {r : Int} (h : 1 ≤ r ∧ r ≤ 8) : scB r flX flY (flN 0) = true := by
  unfold scB
  rw [decide_eq_true h.1, decide_eq_true h.2, fl0, show wsZ (flN 0) = 0 from by decide +kernel]
  rfl
end Go.Proofs.Yticecjjlafmclaa
namespace Go.Proofs.Yticecjjlafmclaa
open Go.ChangeShapes Go.WideShapes Go.ChangeAt Go.RowKit
set_option linter.unusedVariables false
set_option linter.unusedSimpArgs false
set_option maxRecDepth 100000 in
set_option maxHeartbeats 8000000 in
theorem sscnew (a1 a2 a3 : Option Addr) (e1 e2 e3 : Nat) (X Y : List Int) (Z : List (List Int)) (r q p al : Int) (w : World) : Calls Try.prog 34 #[.agg #[.slice a1 X.length e1, .slice a2 Y.length e2, .slice a3 Z.length e3, .int .i64 r], .int .i64 q, .int .i64 p, .int .i64 al] w fun e w' => e = .returned (.agg #[.slice a1 X.length e1, .slice a2 Y.length e2, .slice a3 Z.length e3, .int .i64 r, .int .i64 (clQ q), .int .i64 (clP p), .int .i64 al]) ∧ Below w.heap.size w w' := by
  unfold clQ clP
  go_enter Try.func34, Try.ntmps34
  go_wp2
  exact bodyPost_ret (v := .agg #[.slice a1 X.length e1, .slice a2 Y.length e2, .slice a3 Z.length e3, .int .i64 r, .int .i64 (min (max q 0) 4294967296), .int .i64 (min (max p 1) 4294967296), .int .i64 al]) (by simp [results, Try.results34, go_sem]) rfl ⟨rfl, (by repeat (first | exact Below.refl _ _ | assumption | apply Below.drew | apply below_drewN | (refine Below.alloc ?_ (by first | exact Nat.le_refl _ | omega | (simp <;> omega)) _) | (refine Below.setCell ?_ (by first | exact Nat.le_refl _ | omega | (simp <;> omega)) _)))⟩
theorem ssf_box (w : World) (a1 a2 a3 : Option Addr) (e1 e2 e3 : Nat) (X Y : List Int) (Z : List (List Int)) (r q p al : Int) : ∃ V, V = (w.alloc (.cells #[.slice a1 X.length e1, .slice a2 Y.length e2, .slice a3 Z.length e3, .int .i64 r, .int .i64 q, .int .i64 p, .int .i64 al] 61)) ∧ Below w.heap.size w V ∧ V.heap.size = w.heap.size + 1 ∧ ∀ u, Below (w.heap.size + 1) V u → u.cell? ⟨w.heap.size, 0, none⟩ = some (.slice a1 X.length e1) ∧ u.cell? ⟨w.heap.size, 1, none⟩ = some (.slice a2 Y.length e2) ∧ u.cell? ⟨w.heap.size, 2, none⟩ = some (.slice a3 Z.length e3) ∧ u.cell? ⟨w.heap.size, 3, none⟩ = some (.int .i64 r) ∧ u.cell? ⟨w.heap.size, 4, none⟩ = some (.int .i64 q) ∧ u.cell? ⟨w.heap.size, 5, none⟩ = some (.int .i64 p) ∧ u.cell? ⟨w.heap.size, 6, none⟩ = some (.int .i64 al) :=
  ⟨_, rfl, (by repeat (first | exact Below.refl _ _ | assumption | apply Below.drew | apply below_drewN | (refine Below.alloc ?_ (by first | exact Nat.le_refl _ | omega | (simp <;> omega)) _) | (refine Below.setCell ?_ (by first | exact Nat.le_refl _ | omega | (simp <;> omega)) _))), by simp, fun u hu => ⟨(bc hu (by omega)).trans (by go_simp), (bc hu (by omega)).trans (by go_simp), (bc hu (by omega)).trans (by go_simp), (bc hu (by omega)).trans (by go_simp), (bc hu (by omega)).trans (by go_simp), (bc hu (by omega)).trans (by go_simp), (bc hu (by omega)).trans (by go_simp)⟩⟩
set_option maxRecDepth 100000 in
set_option maxHeartbeats 8000000 in
theorem sscerrat (a1 a2 a3 : Option Addr) (GA : Nat → Option Addr) (GC : Nat → Nat) (e1 e2 e3 : Nat) (X Y : List Int) (Z : List (List Int)) (r q p al t : Int) (w : World) (hx : RowIs .i64 w a1 X) (hy : RowIs .i64 w a2 Y) (hg : GridIs .i64 w a3 GA GC Z) (hX : X.length ≤ 50) (hY : Y.length ≤ 50) (hZ : Z.length ≤ 50) (hR : ∀ i, i < Z.length → (Z.getD i []).length ≤ 50) (hs : shB X Y Z = true) (hq : 0 ≤ q ∧ q ≤ 4294967296) (hp : 1 ≤ p ∧ p ≤ 4294967296) (ht : 1 ≤ t ∧ t ≤ 8589934592) : Calls Try.prog 35 #[.agg #[.slice a1 X.length e1, .slice a2 Y.length e2, .slice a3 Z.length e3, .int .i64 r, .int .i64 q, .int .i64 p, .int .i64 al], .int .i64 t] w fun e w' => e = .returned (.int .i64 (erF X Y Z q p al t)) ∧ Below w.heap.size w w' := by
  obtain ⟨V, eV, hb0, hz, hcs⟩ := ssf_box w a1 a2 a3 e1 e2 e3 X Y Z r q p al
  have AT := Lib.hid (fun u (h : Below (w.heap.size + 1) V u) => show Calls Try.prog 49 #[.agg #[.slice a1 X.length e1, .slice a2 Y.length e2, .slice a3 Z.length e3], .int .i64 (maV (max (q + p - t) 0) t), .int .i64 al] u fun e w' => e = .returned (.tuple #[.int .i64 (erF X Y Z q p al t), .bool true]) ∧ Below u.heap.size u w' from by
    have := sat_any a1 a2 a3 GA GC e1 e2 e3 X Y Z (maV (max (q + p - t) 0) t) al u (hx.below (hb0.trans (h.mono (by omega)))) (hy.below (hb0.trans (h.mono (by omega)))) (hg.below (hb0.trans (h.mono (by omega)))) hX hY hZ hR
    rw [hs] at this
    simp only [if_true] at this
    exact this)
  have IM := Lib.hid (fun u => sscimpact a1 a2 a3 e1 e2 e3 X Y Z r q p al t u hq hp ht)
  have MA := Lib.hid (fun u => mat_any (max (q + p - t) 0) t u (by omega) (by omega) (by omega) (by omega))
  generalize erF X Y Z q p al t = n at *
  generalize maB (max (q + p - t) 0) t = mb at *
  generalize maV (max (q + p - t) 0) t = m at *
  generalize max (q + p - t) 0 = i at *
  clear hx hy hg hX hY hZ hR hs hq hp ht
  replace hb0 := Lib.hid hb0
  replace hz := Lib.hid hz
  replace hcs := Lib.hid hcs
  replace eV := Lib.hid eV
  go_enter Try.func35, Try.ntmps35
  go_wp2_with fail
  rw [← eV.out]
  obtain ⟨k0, k1, k2, k3, k4, k5, k6⟩ := hcs.out _ (Below.refl _ _)
  go_wp2_with fail
  refine (IM.out _).mono ?_
  rintro e w1 ⟨rfl, hb1⟩
  have hb1 := (Below.refl (w.heap.size + 1) V).trans (hb1.mono (Nat.le_of_eq hz.out.symm))
  obtain ⟨k0, k1, k2, k3, k4, k5, k6⟩ := hcs.out _ hb1
  go_wp2_with fail
  refine (MA.out _).mono ?_
  rintro e w2 ⟨rfl, hb2⟩
  have hb2 := hb1.trans (hb2.mono (by have := hb1.size; have := hz.out; omega))
  clear hb1
  obtain ⟨k0, k1, k2, k3, k4, k5, k6⟩ := hcs.out _ hb2
  go_wp2_with fail
  refine (AT.out _ hb2).mono ?_
  rintro e w3 ⟨rfl, hb3⟩
  have hb3 := hb2.trans (hb3.mono (by have := hb2.size; have := hz.out; omega))
  clear hb2
  obtain ⟨k0, k1, k2, k3, k4, k5, k6⟩ := hcs.out _ hb3
  go_wp2
  go_ret
  exact ⟨rfl, hb0.out.trans (hb3.mono (by omega))⟩
set_option maxRecDepth 100000 in
set_option maxHeartbeats 8000000 in
theorem sscstatic (a1 a2 a3 : Option Addr) (GA : Nat → Option Addr) (GC : Nat → Nat) (e1 e2 e3 : Nat) (X Y : List Int) (Z : List (List Int)) (r q p al : Int) (w : World) (hx : RowIs .i64 w a1 X) (hy : RowIs .i64 w a2 Y) (hg : GridIs .i64 w a3 GA GC Z) (hX : X.length ≤ 50) (hY : Y.length ≤ 50) (hZ : Z.length ≤ 50) (hR : ∀ i, i < Z.length → (Z.getD i []).length ≤ 50) (hs : scB r X Y Z = true) (hq : 0 ≤ q ∧ q ≤ 4294967296) (hp : 1 ≤ p ∧ p ≤ 4294967296) : Calls Try.prog 37 #[.agg #[.slice a1 X.length e1, .slice a2 Y.length e2, .slice a3 Z.length e3, .int .i64 r, .int .i64 q, .int .i64 p, .int .i64 al]] w fun e w' => e = .returned (.int .i64 (stF X Y Z q p al r.toNat)) ∧ Below w.heap.size w w' := by
  obtain ⟨V, eV, hb0, hz, hcs⟩ := ssf_box w a1 a2 a3 e1 e2 e3 X Y Z r q p al
  have ER := Lib.hid (fun (j : Nat) u (h : Below (w.heap.size + 1) V u) => sscerrat a1 a2 a3 GA GC e1 e2 e3 X Y Z r q p al (stF X Y Z q p al j) u (hx.below (hb0.trans (h.mono (by omega)))) (hy.below (hb0.trans (h.mono (by omega)))) (hg.below (hb0.trans (h.mono (by omega)))) hX hY hZ hR (scB_sh hs) hq hp (by have := stF_bd hs q al hp j; omega))
  have BD := Lib.hid (fun (j : Nat) => erF_bd hs q p al (stF X Y Z q p al j))
  have hr := scB_ws hs
  have NR := Lib.hid (show (1 : Int) ≤ r ∧ r ≤ 8 from ⟨hr.1, hr.2.1⟩)
  have PB := Lib.hid hp
  clear hx hy hg hX hY hZ hR hs hq hp hr
  replace hb0 := Lib.hid hb0
  replace hz := Lib.hid hz
  replace hcs := Lib.hid hcs
  replace eV := Lib.hid eV
  go_enter Try.func37, Try.ntmps37
  go_wp2_with fail
  rw [← eV.out]
  obtain ⟨k0, k1, k2, k3, k4, k5, k6⟩ := hcs.out _ (Below.refl _ _)
  go_wp2_with fail
  go_loopw [3, 9] (fun t i v => ∃ j : Nat, (j : Int) ≤ r ∧ t = .int .i64 (stF X Y Z q p al j) ∧ i = .int .i64 (j : Int) ∧ Below (w.heap.size + 1) V v) (fun _ i _ => r.toNat - (intOf i).toNat)
  case atStart => exact ⟨0, by have := NR.out; omega, rfl, rfl, Below.refl _ _⟩
  case round =>
    clear k0 k1 k2 k3 k4 k5 k6
    obtain ⟨j, hj, rfl, rfl, hb⟩ := hrel
    obtain ⟨k0, k1, k2, k3, k4, k5, k6⟩ := hcs.out _ hb
    have E9 := ER.out j
    have bd := BD.out j
    have SN := Lib.hid (show stF X Y Z q p al (j + 1) = max (p - erF X Y Z q p al (stF X Y Z q p al j)) 1 from rfl)
    generalize erF X Y Z q p al (stF X Y Z q p al j) = n at *
    obtain ⟨t, ht⟩ : ∃ t, t = stF X Y Z q p al j := ⟨_, rfl⟩
    rw [← ht] at E9 ⊢
    replace ht := Lib.hid ht
    have w1 : IntKind.i64.wrap (p - n) = p - n := by have := PB.out; rw [IntKind.wrap_i64]; omega
    replace E9 := Lib.hid E9
    clear bd
    have hr8 : r ≤ 8 := NR.out.2
    by_cases hlt : (j : Int) < r
    · have l0 : 0 ≤ (j : Int) := by omega
      go_wp2_with fail
      refine region_moves (fun u => u.cell? ⟨w.heap.size, 0, none⟩ = some (.slice a1 X.length e1) ∧ u.cell? ⟨w.heap.size, 1, none⟩ = some (.slice a2 Y.length e2) ∧ u.cell? ⟨w.heap.size, 2, none⟩ = some (.slice a3 Z.length e3) ∧ u.cell? ⟨w.heap.size, 3, none⟩ = some (.int .i64 r) ∧ u.cell? ⟨w.heap.size, 4, none⟩ = some (.int .i64 q) ∧ u.cell? ⟨w.heap.size, 5, none⟩ = some (.int .i64 p) ∧ u.cell? ⟨w.heap.size, 6, none⟩ = some (.int .i64 al)) [] [(.free, 0), (.take, 1), (.take, 2), (.free, 3), (.step, 4), (.free, 5), (.free, 6), (.free, 7)] _ (by kernel_rfl) (by kernel_rfl) (by kernel_rfl) (by kernel_rfl) (by decide) rfl (fun _ _ _ _ _ h => h) ?_
      simp only [List.filterMap_cons, List.filterMap_nil, List.getElem?_toArray, List.getElem?_cons_zero, List.getElem?_cons_succ, Option.map_some]
      iterate 1
        first
          | (refine mv_free ?_ (Or.inl ⟨by rfl, ?_⟩) (⟨k0, k1, k2, k3, k4, k5, k6⟩) ?_
             rotate_left 1
             · intro u
               go_simp
               try simp only [d1]
               try simp only [d2]
               try simp only [d3]
               try simp only [d1]
               try simp only [d2]
               try simp only [d3]
               try simp only [d1]
               try simp only [d2]
               try simp only [d3]
               try simp only [d1]
               try simp only [d2]
               try simp only [d3]
               try simp only [d1]
               try simp only [d2]
               try simp only [d3]
               try simp only [d1]
               try simp only [d2]
               try simp only [d3]
               try simp only [d1]
               try simp only [d2]
               try simp only [d3]
               try with_reducible rfl
             simp only [Act.put, List.setIfInBounds_toArray, List.set_cons_zero, List.set_cons_succ])
          | (refine mv_free _ (Or.inr ⟨by rfl, rfl⟩) (⟨k0, k1, k2, k3, k4, k5, k6⟩) ?_
             simp only [Act.put, List.setIfInBounds_toArray, List.set_cons_zero, List.set_cons_succ])
      iterate 2
        first
          | (refine mv_take ?_ (Or.inl ⟨by rfl, ?_⟩) (⟨k0, k1, k2, k3, k4, k5, k6⟩) ?_
             rotate_left 1
             · intro u hu
               (try dsimp only at hu)
               go_simp
               try with_reducible rfl
             simp only [Act.put, List.setIfInBounds_toArray, List.set_cons_zero, List.set_cons_succ])
          | (refine mv_take _ (Or.inr ⟨by rfl, rfl⟩) (⟨k0, k1, k2, k3, k4, k5, k6⟩) ?_
             simp only [Act.put, List.setIfInBounds_toArray, List.set_cons_zero, List.set_cons_succ])
      iterate 1
        first
          | (refine mv_free ?_ (Or.inl ⟨by rfl, ?_⟩) (⟨k0, k1, k2, k3, k4, k5, k6⟩) ?_
             rotate_left 1
             · intro u
               go_simp
               try simp only [d1]
               try simp only [d2]
               try simp only [d3]
               try simp only [d1]
               try simp only [d2]
               try simp only [d3]
               try simp only [d1]
               try simp only [d2]
               try simp only [d3]
               try simp only [d1]
               try simp only [d2]
               try simp only [d3]
               try simp only [d1]
               try simp only [d2]
               try simp only [d3]
               try simp only [d1]
               try simp only [d2]
               try simp only [d3]
               try simp only [d1]
               try simp only [d2]
               try simp only [d3]
               try with_reducible rfl
             simp only [Act.put, List.setIfInBounds_toArray, List.set_cons_zero, List.set_cons_succ])
          | (refine mv_free _ (Or.inr ⟨by rfl, rfl⟩) (⟨k0, k1, k2, k3, k4, k5, k6⟩) ?_
             simp only [Act.put, List.setIfInBounds_toArray, List.set_cons_zero, List.set_cons_succ])
      refine mv_step (fun K hK => ?_)
      go_simp
      refine (E9.out _ hb.drew).mono ?_
      rintro e w3 ⟨rfl, hb3⟩
      have hb3 := hb.drew.trans (hb3.mono (by have := hb.size; have := hz.out; show _ ≤ wr.heap.size; omega))
      clear hb
      obtain ⟨k0, k1, k2, k3, k4, k5, k6⟩ := hcs.out _ hb3
      go_wp2_with fail
      refine hK.out _ _ _ (fun u hu => hu) (⟨k0, k1, k2, k3, k4, k5, k6⟩) ?_
      clear hK K
      iterate 3
        first
          | (refine mv_free ?_ (Or.inl ⟨by rfl, ?_⟩) (⟨k0, k1, k2, k3, k4, k5, k6⟩) ?_
             rotate_left 1
             · intro u
               go_simp
               try simp only [d1]
               try simp only [d2]
               try simp only [d3]
               try simp only [d1]
               try simp only [d2]
               try simp only [d3]
               try simp only [d1]
               try simp only [d2]
               try simp only [d3]
               try simp only [d1]
               try simp only [d2]
               try simp only [d3]
               try simp only [d1]
               try simp only [d2]
               try simp only [d3]
               try simp only [d1]
               try simp only [d2]
               try simp only [d3]
               try simp only [d1]
               try simp only [d2]
               try simp only [d3]
               try with_reducible rfl
             simp only [Act.put, List.setIfInBounds_toArray, List.set_cons_zero, List.set_cons_succ])
          | (refine mv_free _ (Or.inr ⟨by rfl, rfl⟩) (⟨k0, k1, k2, k3, k4, k5, k6⟩) ?_
             simp only [Act.put, List.setIfInBounds_toArray, List.set_cons_zero, List.set_cons_succ])
      refine mv_done ?_
      go_wp2
      go_roundw
      case rel => exact ⟨j + 1, by omega, by rw [SN.out], by go_num, hb3⟩
      case measure => simp [intOf]; omega
    · have hge : r ≤ (j : Int) := by omega
      obtain rfl : j = r.toNat := by omega
      have hb9 := Lib.hid (hb0.out.trans (hb.mono (by omega)))
      clear hge hj
      have hge : r ≤ (r.toNat : Int) := by omega
      go_wp2
      go_ret
      exact ⟨ret_int ht.out, hb9.out⟩

/-- A sheet of one error lies there. -/
def FlatP (n : Int) (w : World) (e : Ending) (w' : World) : Prop := ∃ (g1 g2 g3 g4 g5 : Nat), e = .returned (.agg #[.slice (some ⟨g1, 0, none⟩) 2 2, .slice (some ⟨g2, 0, none⟩) 2 2, .slice (some ⟨g3, 0, none⟩) 2 2]) ∧ RowIs .i64 w' (some ⟨g1, 0, none⟩) flX ∧ RowIs .i64 w' (some ⟨g2, 0, none⟩) flY ∧ GridIs .i64 w' (some ⟨g3, 0, none⟩) (two (some ⟨g4, 0, none⟩) (some ⟨g5, 0, none⟩)) (fun _ => 2) (flN n) ∧ Below w.heap.size w w'
set_option maxRecDepth 100000 in
set_option maxHeartbeats 8000000 in
theorem sscflat (n : Int) (w : World) : Calls Try.prog 9 #[.int .i64 n] w (FlatP n w) := by
  unfold FlatP flX flY flN
  go_enter Try.func9, Try.ntmps9
  go_wp2
  refine bodyPost_ret (v := .agg #[.slice (some ⟨w.heap.size + 1, 0, none⟩) 2 2, .slice (some ⟨w.heap.size + 1 + 1, 0, none⟩) 2 2, .slice (some ⟨w.heap.size + 1 + 1 + 1 + 1 + 1, 0, none⟩) 2 2]) (by simp [results, Try.results9, go_sem]) rfl ⟨_, _, _, w.heap.size + 1 + 1 + 1, w.heap.size + 1 + 1 + 1 + 1, rfl, row2_at (by simp; try omega) (by go_simp) (by go_simp), row2_at (by simp; try omega) (by go_simp) (by go_simp), grid2_at (x := w.heap.size + 1 + 1 + 1) (y := w.heap.size + 1 + 1 + 1 + 1) (by simp; try omega) (by go_simp) (by go_simp) (row2_at (by simp; try omega) (by go_simp) (by go_simp)) (row2_at (by simp; try omega) (by go_simp) (by go_simp)), (by repeat (first | exact Below.refl _ _ | assumption | apply Below.drew | apply below_drewN | (refine Below.alloc ?_ (by first | exact Nat.le_refl _ | omega | (simp <;> omega)) _) | (refine Below.setCell ?_ (by first | exact Nat.le_refl _ | omega | (simp <;> omega)) _)))⟩
end Go.Proofs.Yticecjjlafmclaa
namespace Go.Proofs.Yticecjjlafmclaa
open Go.ChangeShapes Go.WideShapes Go.ChangeAt Go.RowKit
set_option linter.unusedVariables false
set_option linter.unusedSimpArgs false
theorem ss8_box (w : World) (a1 a2 a3 : Option Addr) (e1 e2 e3 : Nat) (X Y : List Int) (Z : List (List Int)) (r : Int) : ∃ V, V = (w.alloc (.cells #[.slice a1 X.length e1, .slice a2 Y.length e2, .slice a3 Z.length e3, .int .i64 r] 29)) ∧ Below w.heap.size w V ∧ V.heap.size = w.heap.size + 1 ∧ ∀ u, Below (w.heap.size + 1) V u → u.cell? ⟨w.heap.size, 0, none⟩ = some (.slice a1 X.length e1) ∧ u.cell? ⟨w.heap.size, 1, none⟩ = some (.slice a2 Y.length e2) ∧ u.cell? ⟨w.heap.size, 2, none⟩ = some (.slice a3 Z.length e3) ∧ u.cell? ⟨w.heap.size, 3, none⟩ = some (.int .i64 r) :=
  ⟨_, rfl, (by repeat (first | exact Below.refl _ _ | assumption | apply Below.drew | apply below_drewN | (refine Below.alloc ?_ (by first | exact Nat.le_refl _ | omega | (simp <;> omega)) _) | (refine Below.setCell ?_ (by first | exact Nat.le_refl _ | omega | (simp <;> omega)) _))), by simp, fun u hu => ⟨(bc hu (by omega)).trans (by go_simp), (bc hu (by omega)).trans (by go_simp), (bc hu (by omega)).trans (by go_simp), (bc hu (by omega)).trans (by go_simp)⟩⟩
set_option maxRecDepth 100000 in
set_option maxHeartbeats 8000000 in
theorem sscstat (a1 a2 a3 : Option Addr) (GA : Nat → Option Addr) (GC : Nat → Nat) (e1 e2 e3 : Nat) (X Y : List Int) (Z : List (List Int)) (r q p al : Int) (w : World) (hx : RowIs .i64 w a1 X) (hy : RowIs .i64 w a2 Y) (hg : GridIs .i64 w a3 GA GC Z) (hX : X.length ≤ 50) (hY : Y.length ≤ 50) (hZ : Z.length ≤ 50) (hR : ∀ i, i < Z.length → (Z.getD i []).length ≤ 50) : Calls Try.prog 33 #[.agg #[.slice a1 X.length e1, .slice a2 Y.length e2, .slice a3 Z.length e3, .int .i64 r], .int .i64 q, .int .i64 p, .int .i64 al] w fun e w' => e = .returned (.tuple #[.int .i64 (if scB r X Y Z then stF X Y Z (clQ q) (clP p) al r.toNat else 0), .bool (scB r X Y Z)]) ∧ Below w.heap.size w w' := by
  obtain ⟨V, eV, hb0, hz, hcs⟩ := ss8_box w a1 a2 a3 e1 e2 e3 X Y Z r
  have RT := Lib.hid (fun u (h : Below (w.heap.size + 1) V u) => sscright a1 a2 a3 GA GC e1 e2 e3 X Y Z r u (hx.below (hb0.trans (h.mono (by omega)))) (hy.below (hb0.trans (h.mono (by omega)))) (hg.below (hb0.trans (h.mono (by omega)))) hX hY hZ hR)
  cases hs : scB r X Y Z
  · rw [hs] at RT
    clear hx hy hg hX hY hZ hR hs
    simp only [Bool.false_eq_true, if_false]
    replace hb0 := Lib.hid hb0
    replace hz := Lib.hid hz
    replace hcs := Lib.hid hcs
    replace eV := Lib.hid eV
    go_enter Try.func33, Try.ntmps33
    go_wp2_with fail
    rw [← eV.out]
    obtain ⟨k0, k1, k2, k3⟩ := hcs.out _ (Below.refl _ _)
    go_wp2_with fail
    refine (RT.out _ (Below.refl _ _)).mono ?_
    rintro e w1 ⟨rfl, hb1⟩
    have hb1 := (Below.refl (w.heap.size + 1) V).trans (hb1.mono (Nat.le_of_eq hz.out.symm))
    obtain ⟨k0, k1, k2, k3⟩ := hcs.out _ hb1
    go_wp2
    go_ret2
    exact ⟨rfl, hb0.out.trans (hb1.mono (by omega))⟩
  · rw [hs] at RT
    have hQ := clQ_bd q
    have hP := clP_bd p
    have NF := Lib.hid (fun u => sscnew a1 a2 a3 e1 e2 e3 X Y Z r q p al u)
    have ST := Lib.hid (fun u (h : Below (w.heap.size + 1) V u) => sscstatic a1 a2 a3 GA GC e1 e2 e3 X Y Z r (clQ q) (clP p) al u (hx.below (hb0.trans (h.mono (by omega)))) (hy.below (hb0.trans (h.mono (by omega)))) (hg.below (hb0.trans (h.mono (by omega)))) hX hY hZ hR hs hQ hP)
    clear hx hy hg hX hY hZ hR hs
    simp only [if_true]
    generalize stF X Y Z (clQ q) (clP p) al r.toNat = t at *
    generalize clQ q = Q at *
    generalize clP p = P at *
    clear hQ hP
    replace hb0 := Lib.hid hb0
    replace hz := Lib.hid hz
    replace hcs := Lib.hid hcs
    replace eV := Lib.hid eV
    go_enter Try.func33, Try.ntmps33
    go_wp2_with fail
    rw [← eV.out]
    obtain ⟨k0, k1, k2, k3⟩ := hcs.out _ (Below.refl _ _)
    go_wp2_with fail
    refine (RT.out _ (Below.refl _ _)).mono ?_
    rintro e w1 ⟨rfl, hb1⟩
    have hb1 := (Below.refl (w.heap.size + 1) V).trans (hb1.mono (Nat.le_of_eq hz.out.symm))
    obtain ⟨k0, k1, k2, k3⟩ := hcs.out _ hb1
    go_wp2_with fail
    refine (NF.out _).mono ?_
    rintro e w2 ⟨rfl, hb2⟩
    have hb2 := hb1.trans (hb2.mono (by have := hb1.size; have := hz.out; omega))
    clear hb1
    go_wp2_with fail
    refine (ST.out _ hb2).mono ?_
    rintro e w3 ⟨rfl, hb3⟩
    have hb3 := hb2.trans (hb3.mono (by have := hb2.size; have := hz.out; omega))
    clear hb2
    go_wp2
    go_ret2
    exact ⟨rfl, hb0.out.trans (hb3.mono (by omega))⟩
set_option maxRecDepth 100000 in
set_option maxHeartbeats 8000000 in
theorem sscimp (a1 a2 a3 : Option Addr) (GA : Nat → Option Addr) (GC : Nat → Nat) (e1 e2 e3 : Nat) (X Y : List Int) (Z : List (List Int)) (r q p al : Int) (w : World) (hx : RowIs .i64 w a1 X) (hy : RowIs .i64 w a2 Y) (hg : GridIs .i64 w a3 GA GC Z) (hX : X.length ≤ 50) (hY : Y.length ≤ 50) (hZ : Z.length ≤ 50) (hR : ∀ i, i < Z.length → (Z.getD i []).length ≤ 50) : Calls Try.prog 15 #[.agg #[.slice a1 X.length e1, .slice a2 Y.length e2, .slice a3 Z.length e3, .int .i64 r], .int .i64 q, .int .i64 p, .int .i64 al] w fun e w' => e = .returned (.tuple #[.int .i64 (if scB r X Y Z then max (clQ q + clP p - stF X Y Z (clQ q) (clP p) al r.toNat) 0 else 0), .int .i64 (if scB r X Y Z then stF X Y Z (clQ q) (clP p) al r.toNat else 0), .bool (scB r X Y Z)]) ∧ Below w.heap.size w w' := by
  obtain ⟨V, eV, hb0, hz, hcs⟩ := ss8_box w a1 a2 a3 e1 e2 e3 X Y Z r
  have RT := Lib.hid (fun u (h : Below (w.heap.size + 1) V u) => sscright a1 a2 a3 GA GC e1 e2 e3 X Y Z r u (hx.below (hb0.trans (h.mono (by omega)))) (hy.below (hb0.trans (h.mono (by omega)))) (hg.below (hb0.trans (h.mono (by omega)))) hX hY hZ hR)
  cases hs : scB r X Y Z
  · rw [hs] at RT
    clear hx hy hg hX hY hZ hR hs
    simp only [Bool.false_eq_true, if_false]
    replace hb0 := Lib.hid hb0
    replace hz := Lib.hid hz
    replace hcs := Lib.hid hcs
    replace eV := Lib.hid eV
    go_enter Try.func15, Try.ntmps15
    go_wp2_with fail
    rw [← eV.out]
    obtain ⟨k0, k1, k2, k3⟩ := hcs.out _ (Below.refl _ _)
    go_wp2_with fail
    refine (RT.out _ (Below.refl _ _)).mono ?_
    rintro e w1 ⟨rfl, hb1⟩
    have hb1 := (Below.refl (w.heap.size + 1) V).trans (hb1.mono (Nat.le_of_eq hz.out.symm))
    obtain ⟨k0, k1, k2, k3⟩ := hcs.out _ hb1
    go_wp2
    go_ret3
    exact ⟨rfl, hb0.out.trans (hb1.mono (by omega))⟩
  · rw [hs] at RT
    have hQ := clQ_bd q
    have hP := clP_bd p
    have NF := Lib.hid (fun u => sscnew a1 a2 a3 e1 e2 e3 X Y Z r q p al u)
    have ST := Lib.hid (fun u (h : Below (w.heap.size + 1) V u) => sscstatic a1 a2 a3 GA GC e1 e2 e3 X Y Z r (clQ q) (clP p) al u (hx.below (hb0.trans (h.mono (by omega)))) (hy.below (hb0.trans (h.mono (by omega)))) (hg.below (hb0.trans (h.mono (by omega)))) hX hY hZ hR hs hQ hP)
    have IM := Lib.hid (fun u => sscimpact a1 a2 a3 e1 e2 e3 X Y Z r (clQ q) (clP p) al (stF X Y Z (clQ q) (clP p) al r.toNat) u hQ hP (by have := stF_bd hs (clQ q) al hP r.toNat; omega))
    clear hx hy hg hX hY hZ hR hs
    simp only [if_true]
    generalize stF X Y Z (clQ q) (clP p) al r.toNat = t at *
    generalize clQ q = Q at *
    generalize clP p = P at *
    clear hQ hP
    generalize max (Q + P - t) 0 = i at *
    replace hb0 := Lib.hid hb0
    replace hz := Lib.hid hz
    replace hcs := Lib.hid hcs
    replace eV := Lib.hid eV
    go_enter Try.func15, Try.ntmps15
    go_wp2_with fail
    rw [← eV.out]
    obtain ⟨k0, k1, k2, k3⟩ := hcs.out _ (Below.refl _ _)
    go_wp2_with fail
    refine (RT.out _ (Below.refl _ _)).mono ?_
    rintro e w1 ⟨rfl, hb1⟩
    have hb1 := (Below.refl (w.heap.size + 1) V).trans (hb1.mono (Nat.le_of_eq hz.out.symm))
    obtain ⟨k0, k1, k2, k3⟩ := hcs.out _ hb1
    go_wp2_with fail
    refine (NF.out _).mono ?_
    rintro e w2 ⟨rfl, hb2⟩
    have hb2 := hb1.trans (hb2.mono (by have := hb1.size; have := hz.out; omega))
    clear hb1
    go_upto_region 4 with (fail)
    obtain ⟨V1, eV1, hm0, hz9, hcs1⟩ := ssf_box w2 a1 a2 a3 e1 e2 e3 X Y Z r Q P al
    have hb3 := hb2.trans (hm0.mono (by have := hb2.size; have := hz.out; omega))
    clear hb2
    replace eV1 := Lib.hid eV1
    replace hcs1 := Lib.hid hcs1
    replace hz9 := Lib.hid hz9
    replace hm0 := Lib.hid hm0
    rw [← eV1.out]
    obtain ⟨j0, j1, j2, j3, j4, j5, j6⟩ := hcs1.out _ (Below.refl _ _)
    go_wp2_with fail
    refine (ST.out _ hb3).mono ?_
    rintro e w4 ⟨rfl, hb4⟩
    have hj4 := (Below.refl (w2.heap.size + 1) V1).trans (hb4.mono (by have := hz9.out; omega))
    have hb4 := hb3.trans (hb4.mono (by have := hb3.size; have := hz.out; omega))
    clear hb3
    obtain ⟨j0, j1, j2, j3, j4, j5, j6⟩ := hcs1.out _ hj4
    go_wp2_with fail
    refine (IM.out _).mono ?_
    rintro e w5 ⟨rfl, hb5⟩
    have hj5 := hj4.trans (hb5.mono (by have := hj4.size; have := hz9.out; omega))
    have hb5 := hb4.trans (hb5.mono (by have := hb4.size; have := hz.out; omega))
    clear hb4
    obtain ⟨j0, j1, j2, j3, j4, j5, j6⟩ := hcs1.out _ hj5
    go_wp2
    go_ret3
    exact ⟨rfl, hb0.out.trans (hb5.mono (by omega))⟩
set_option maxRecDepth 100000 in
set_option maxHeartbeats 8000000 in
theorem sscmea (a1 a2 a3 : Option Addr) (GA : Nat → Option Addr) (GC : Nat → Nat) (e1 e2 e3 : Nat) (X Y : List Int) (Z : List (List Int)) (r q p al : Int) (w : World) (hx : RowIs .i64 w a1 X) (hy : RowIs .i64 w a2 Y) (hg : GridIs .i64 w a3 GA GC Z) (hX : X.length ≤ 50) (hY : Y.length ≤ 50) (hZ : Z.length ≤ 50) (hR : ∀ i, i < Z.length → (Z.getD i []).length ≤ 50) : Calls Try.prog 14 #[.agg #[.slice a1 X.length e1, .slice a2 Y.length e2, .slice a3 Z.length e3, .int .i64 r], .int .i64 q, .int .i64 p, .int .i64 al] w fun e w' => e = .returned (.tuple #[.int .i64 (if scB r X Y Z then max (clQ q + clP p - max (clP p + erF X Y Z (clQ q) (clP p) al (clP p)) 1) 0 else 0), .int .i64 (if scB r X Y Z then max (clP p + erF X Y Z (clQ q) (clP p) al (clP p)) 1 else 0), .bool (scB r X Y Z)]) ∧ Below w.heap.size w w' := by
  obtain ⟨V, eV, hb0, hz, hcs⟩ := ss8_box w a1 a2 a3 e1 e2 e3 X Y Z r
  have RT := Lib.hid (fun u (h : Below (w.heap.size + 1) V u) => sscright a1 a2 a3 GA GC e1 e2 e3 X Y Z r u (hx.below (hb0.trans (h.mono (by omega)))) (hy.below (hb0.trans (h.mono (by omega)))) (hg.below (hb0.trans (h.mono (by omega)))) hX hY hZ hR)
  cases hs : scB r X Y Z
  · rw [hs] at RT
    clear hx hy hg hX hY hZ hR hs
    simp only [Bool.false_eq_true, if_false]
    replace hb0 := Lib.hid hb0
    replace hz := Lib.hid hz
    replace hcs := Lib.hid hcs
    replace eV := Lib.hid eV
    go_enter Try.func14, Try.ntmps14
    go_wp2_with fail
    rw [← eV.out]
    obtain ⟨k0, k1, k2, k3⟩ := hcs.out _ (Below.refl _ _)
    go_wp2_with fail
    refine (RT.out _ (Below.refl _ _)).mono ?_
    rintro e w1 ⟨rfl, hb1⟩
    have hb1 := (Below.refl (w.heap.size + 1) V).trans (hb1.mono (Nat.le_of_eq hz.out.symm))
    obtain ⟨k0, k1, k2, k3⟩ := hcs.out _ hb1
    go_wp2
    go_ret3
    exact ⟨rfl, hb0.out.trans (hb1.mono (by omega))⟩
  · rw [hs] at RT
    have hQ := clQ_bd q
    have hP := clP_bd p
    have NF := Lib.hid (fun u => sscnew a1 a2 a3 e1 e2 e3 X Y Z r q p al u)
    have ER := Lib.hid (fun u (h : Below (w.heap.size + 1) V u) => sscerrat a1 a2 a3 GA GC e1 e2 e3 X Y Z r (clQ q) (clP p) al (clP p) u (hx.below (hb0.trans (h.mono (by omega)))) (hy.below (hb0.trans (h.mono (by omega)))) (hg.below (hb0.trans (h.mono (by omega)))) hX hY hZ hR (scB_sh hs) hQ hP (by omega))
    have bd := erF_bd hs (clQ q) (clP p) al (clP p)
    have IM := Lib.hid (fun u => sscimpact a1 a2 a3 e1 e2 e3 X Y Z r (clQ q) (clP p) al (max (clP p + erF X Y Z (clQ q) (clP p) al (clP p)) 1) u hQ hP (by omega))
    clear hx hy hg hX hY hZ hR hs
    simp only [if_true]
    generalize erF X Y Z (clQ q) (clP p) al (clP p) = n at *
    generalize clQ q = Q at *
    generalize clP p = P at *
    have w1 : IntKind.i64.wrap (P + n) = P + n := by rw [IntKind.wrap_i64]; omega
    clear hQ hP bd
    generalize ht : max (P + n) 1 = t at *
    generalize max (Q + P - t) 0 = i at *
    replace ht := Lib.hid ht
    replace hb0 := Lib.hid hb0
    replace hz := Lib.hid hz
    replace hcs := Lib.hid hcs
    replace eV := Lib.hid eV
    go_enter Try.func14, Try.ntmps14
    go_wp2_with fail
    rw [← eV.out]
    obtain ⟨k0, k1, k2, k3⟩ := hcs.out _ (Below.refl _ _)
    go_wp2_with fail
    refine (RT.out _ (Below.refl _ _)).mono ?_
    rintro e w1 ⟨rfl, hb1⟩
    have hb1 := (Below.refl (w.heap.size + 1) V).trans (hb1.mono (Nat.le_of_eq hz.out.symm))
    obtain ⟨k0, k1, k2, k3⟩ := hcs.out _ hb1
    go_wp2_with fail
    refine (NF.out _).mono ?_
    rintro e w2 ⟨rfl, hb2⟩
    have hb2 := hb1.trans (hb2.mono (by have := hb1.size; have := hz.out; omega))
    clear hb1
    go_upto_region 4 with (fail)
    obtain ⟨V1, eV1, hm0, hz9, hcs1⟩ := ssf_box w2 a1 a2 a3 e1 e2 e3 X Y Z r Q P al
    have hb3 := hb2.trans (hm0.mono (by have := hb2.size; have := hz.out; omega))
    clear hb2
    replace eV1 := Lib.hid eV1
    replace hcs1 := Lib.hid hcs1
    replace hz9 := Lib.hid hz9
    replace hm0 := Lib.hid hm0
    rw [← eV1.out]
    obtain ⟨j0, j1, j2, j3, j4, j5, j6⟩ := hcs1.out _ (Below.refl _ _)
    go_wp2_with fail
    refine region_moves (fun u => u.cell? ⟨w2.heap.size, 0, none⟩ = some (.slice a1 X.length e1) ∧ u.cell? ⟨w2.heap.size, 1, none⟩ = some (.slice a2 Y.length e2) ∧ u.cell? ⟨w2.heap.size, 2, none⟩ = some (.slice a3 Z.length e3) ∧ u.cell? ⟨w2.heap.size, 3, none⟩ = some (.int .i64 r) ∧ u.cell? ⟨w2.heap.size, 4, none⟩ = some (.int .i64 Q) ∧ u.cell? ⟨w2.heap.size, 5, none⟩ = some (.int .i64 P) ∧ u.cell? ⟨w2.heap.size, 6, none⟩ = some (.int .i64 al)) [] [(.free, 0), (.take, 1), (.take, 2), (.free, 3), (.take, 4), (.step, 5), (.free, 6), (.free, 7), (.free, 8)] _ (by kernel_rfl) (by kernel_rfl) (by kernel_rfl) (by kernel_rfl) (by decide) rfl (fun _ _ _ _ _ h => h) ?_
    simp only [List.filterMap_cons, List.filterMap_nil, List.getElem?_toArray, List.getElem?_cons_zero, List.getElem?_cons_succ, Option.map_some]
    iterate 1
      first
        | (refine mv_free ?_ (Or.inl ⟨by rfl, ?_⟩) (⟨j0, j1, j2, j3, j4, j5, j6⟩) ?_
           rotate_left 1
           · intro u
             go_simp
             try simp only [d1]
             try simp only [d2]
             try simp only [d3]
             try simp only [d1]
             try simp only [d2]
             try simp only [d3]
             try simp only [d1]
             try simp only [d2]
             try simp only [d3]
             try simp only [d1]
             try simp only [d2]
             try simp only [d3]
             try simp only [d1]
             try simp only [d2]
             try simp only [d3]
             try simp only [d1]
             try simp only [d2]
             try simp only [d3]
             try simp only [d1]
             try simp only [d2]
             try simp only [d3]
             try with_reducible rfl
           simp only [Act.put, List.setIfInBounds_toArray, List.set_cons_zero, List.set_cons_succ])
        | (refine mv_free _ (Or.inr ⟨by rfl, rfl⟩) (⟨j0, j1, j2, j3, j4, j5, j6⟩) ?_
           simp only [Act.put, List.setIfInBounds_toArray, List.set_cons_zero, List.set_cons_succ])
    iterate 2
      first
        | (refine mv_take ?_ (Or.inl ⟨by rfl, ?_⟩) (⟨j0, j1, j2, j3, j4, j5, j6⟩) ?_
           rotate_left 1
           · intro u hu
             (try dsimp only at hu)
             go_simp
             try with_reducible rfl
           simp only [Act.put, List.setIfInBounds_toArray, List.set_cons_zero, List.set_cons_succ])
        | (refine mv_take _ (Or.inr ⟨by rfl, rfl⟩) (⟨j0, j1, j2, j3, j4, j5, j6⟩) ?_
           simp only [Act.put, List.setIfInBounds_toArray, List.set_cons_zero, List.set_cons_succ])
    iterate 1
      first
        | (refine mv_free ?_ (Or.inl ⟨by rfl, ?_⟩) (⟨j0, j1, j2, j3, j4, j5, j6⟩) ?_
           rotate_left 1
           · intro u
             go_simp
             try simp only [d1]
             try simp only [d2]
             try simp only [d3]
             try simp only [d1]
             try simp only [d2]
             try simp only [d3]
             try simp only [d1]
             try simp only [d2]
             try simp only [d3]
             try simp only [d1]
             try simp only [d2]
             try simp only [d3]
             try simp only [d1]
             try simp only [d2]
             try simp only [d3]
             try simp only [d1]
             try simp only [d2]
             try simp only [d3]
             try simp only [d1]
             try simp only [d2]
             try simp only [d3]
             try with_reducible rfl
           simp only [Act.put, List.setIfInBounds_toArray, List.set_cons_zero, List.set_cons_succ])
        | (refine mv_free _ (Or.inr ⟨by rfl, rfl⟩) (⟨j0, j1, j2, j3, j4, j5, j6⟩) ?_
           simp only [Act.put, List.setIfInBounds_toArray, List.set_cons_zero, List.set_cons_succ])
    iterate 1
      first
        | (refine mv_take ?_ (Or.inl ⟨by rfl, ?_⟩) (⟨j0, j1, j2, j3, j4, j5, j6⟩) ?_
           rotate_left 1
           · intro u hu
             (try dsimp only at hu)
             go_simp
             try with_reducible rfl
           simp only [Act.put, List.setIfInBounds_toArray, List.set_cons_zero, List.set_cons_succ])
        | (refine mv_take _ (Or.inr ⟨by rfl, rfl⟩) (⟨j0, j1, j2, j3, j4, j5, j6⟩) ?_
           simp only [Act.put, List.setIfInBounds_toArray, List.set_cons_zero, List.set_cons_succ])
    refine mv_step (fun K hK => ?_)
    go_simp
    refine (ER.out _ hb3.drew).mono ?_
    rintro e w4 ⟨rfl, hb4⟩
    have hj4 := (Below.refl (w2.heap.size + 1) V1).drew.trans (hb4.mono (by have := hz9.out; show _ ≤ V1.heap.size; omega))
    have hb4 := hb3.drew.trans (hb4.mono (by have := hb3.size; have := hz.out; show _ ≤ V1.heap.size; omega))
    clear hb3
    obtain ⟨j0, j1, j2, j3, j4, j5, j6⟩ := hcs1.out _ hj4
    go_wp2_with fail
    refine hK.out _ _ _ (fun u hu => hu) (⟨j0, j1, j2, j3, j4, j5, j6⟩) ?_
    clear hK K
    iterate 3
      first
        | (refine mv_free ?_ (Or.inl ⟨by rfl, ?_⟩) (⟨j0, j1, j2, j3, j4, j5, j6⟩) ?_
           rotate_left 1
           · intro u
             go_simp
             try simp only [d1]
             try simp only [d2]
             try simp only [d3]
             try simp only [d1]
             try simp only [d2]
             try simp only [d3]
             try simp only [d1]
             try simp only [d2]
             try simp only [d3]
             try simp only [d1]
             try simp only [d2]
             try simp only [d3]
             try simp only [d1]
             try simp only [d2]
             try simp only [d3]
             try simp only [d1]
             try simp only [d2]
             try simp only [d3]
             try simp only [d1]
             try simp only [d2]
             try simp only [d3]
             try with_reducible rfl
           simp only [Act.put, List.setIfInBounds_toArray, List.set_cons_zero, List.set_cons_succ])
        | (refine mv_free _ (Or.inr ⟨by rfl, rfl⟩) (⟨j0, j1, j2, j3, j4, j5, j6⟩) ?_
           simp only [Act.put, List.setIfInBounds_toArray, List.set_cons_zero, List.set_cons_succ])
    refine mv_done ?_
    try simp only [ht.out]
    go_wp2_with fail
    refine (IM.out _).mono ?_
    rintro e w5 ⟨rfl, hb5⟩
    have hj5 := hj4.trans (hb5.mono (by have := hj4.size; have := hz9.out; omega))
    have hb5 := hb4.trans (hb5.mono (by have := hb4.size; have := hz.out; omega))
    clear hb4
    obtain ⟨j0, j1, j2, j3, j4, j5, j6⟩ := hcs1.out _ hj5
    go_wp2
    go_ret3
    exact ⟨rfl, hb0.out.trans (hb5.mono (by omega))⟩
end Go.Proofs.Yticecjjlafmclaa
