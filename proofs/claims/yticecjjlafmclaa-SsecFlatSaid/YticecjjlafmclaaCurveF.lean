/- What a curve tells, as a function of the place. -/
import Derived.Test.YticecjjlafmclaaCurve6
namespace Go.Proofs.Yticecjjlafmclaa
open Go.ChangeShapes Go.WideShapes Go.ChangeAt Go.RowKit
set_option linter.unusedVariables false
set_option linter.unusedSimpArgs false

/-- The first point above a place. -/
noncomputable def crK (X : List Int) (x : Int) : Nat := Classical.epsilon (CrK X x)
theorem crK_ok {X : List Int} (h : risB X = true) (x : Int) : CrK X x (crK X x) := Classical.epsilon_spec (crK_ex h x)
theorem crK_one {X : List Int} {x : Int} {i j : Nat} (h : CrK X x i) (g : CrK X x j) : i = j := by
  rcases Nat.lt_trichotomy i j with e | e | e
  · have a := h.hi i (Nat.le_refl _) (by have := g.le; omega)
    rw [g.lo i e] at a; cases a
  · exact e
  · have a := g.hi j (Nat.le_refl _) (by have := h.le; omega)
    rw [h.lo j e] at a; cases a
/-- What a right curve tells at a place. -/
noncomputable def crF (X Y : List Int) (x : Int) : Int := crV X Y x (crK X x)
theorem crF_at {X Y : List Int} {x : Int} {k : Nat} (hr : risB X = true) (h : CrK X x k) : crF X Y x = crV X Y x k := by
  unfold crF
  rw [crK_one (crK_ok hr x) h]
theorem crF_bd {X Y : List Int} (hg : rgtB X Y = true) (x : Int) : -549755813887 ≤ crF X Y x ∧ crF X Y x ≤ 549755813887 := by
  obtain ⟨n1, n2, n3, g1, g2, g3⟩ := rgtB_at hg
  have h := crV_bd hg (crK_ok g1 x)
  exact h
set_option maxRecDepth 100000 in
set_option maxHeartbeats 8000000 in
theorem cat5f (ax ay : Option Addr) (cx cy : Nat) (X Y : List Int) (x : Int) (w : World) (hx : RowIs .i64 w ax X) (hy : RowIs .i64 w ay Y) (hX : X.length ≤ 300) (hY : Y.length ≤ 300) :
    Calls Try.prog 55 #[.agg #[.slice ax X.length cx, .slice ay Y.length cy], .int .i64 x] w fun e w' => e = .returned (.tuple #[.int .i64 (if rgtB X Y then crF X Y x else 0), .bool (rgtB X Y)]) ∧ Below w.heap.size w w' :=
  cat5_any ax ay cx cy X Y x (crK X x) w hx hy hX hY (fun h => crK_ok (rgtB_at h).2.2.2.1 x)
end Go.Proofs.Yticecjjlafmclaa
