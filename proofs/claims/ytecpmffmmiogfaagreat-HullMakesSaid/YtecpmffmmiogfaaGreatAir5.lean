/- A new atmosphere; walked. -/
import Derived.Test.YtecpmffmmiogfaaGreatAir4
namespace Go.Proofs.YtecpmffmmiogfaaGreat
open Go.ChangeShapes Go.WideShapes Go.ChangeAt Go.RowKit
set_option linter.unusedVariables false
set_option linter.unusedSimpArgs false
def zI : Value → Bool
  | .int .i64 (.ofNat 0) => true
  | _ => false
theorem zI_eq {v : Value} (h : zI v = true) : v = .int .i64 0 := by
  unfold zI at h
  split at h
  · rfl
  · cases h
def zchk : Nat → List Value → Bool
  | 0, [] => true
  | n + 1, v :: r => match zI v with
    | true => zchk n r
    | false => false
  | _, _ => false
theorem zchk_at : ∀ {n : Nat} {l : List Value}, zchk n l = true → l.length = n ∧ ∀ i, i < n → l[i]? = some (.int .i64 0)
  | 0, [], _ => ⟨rfl, fun i hi => absurd hi (Nat.not_lt_zero _)⟩
  | 0, v :: r, h => by cases h
  | n + 1, [], h => by cases h
  | n + 1, v :: r, h => by
    unfold zchk at h
    cases hv : zI v with
    | false => rw [hv] at h; cases h
    | true =>
      rw [hv] at h
      obtain ⟨h1, h2⟩ := zchk_at h
      refine ⟨by simp [h1], fun i hi => ?_⟩
      cases i with
      | zero => simp [zI_eq hv]
      | succ i => simpa using h2 i (by omega)
noncomputable def airL : List Value := match Tryz.t36.zero with
  | some (.agg z) => z.toList
  | _ => []
set_option maxRecDepth 100000 in
theorem airL_zero (w : World) : (zeroValue 36).run Tryz.prog w = .ok (.agg airL.toArray) w := by kernel_rfl
set_option maxRecDepth 100000 in
theorem airL_3 : airL.take 3 = [.int .u32 0, .int .i32 0, .int .u32 0] := by kernel_rfl
set_option maxRecDepth 100000 in
theorem airL_z : zchk 2101 (airL.drop 3) = true := by kernel_rfl
theorem airL_at (i : Nat) (hi : i < 2101) : airL[3 + i]? = some (.int .i64 0) := by
  have := (zchk_at airL_z).2 i hi
  rwa [List.getElem?_drop] at this
theorem airL_len : airL.length = 2104 := by
  have := (zchk_at airL_z).1
  rw [List.length_drop] at this
  omega
theorem airL_0 : airL[0]? = some (.int .u32 0) := by
  have : (airL.take 3)[0]? = some (.int .u32 0) := by rw [airL_3]; rfl
  rwa [List.getElem?_take] at this
theorem airL_1 : airL[1]? = some (.int .i32 0) := by
  have : (airL.take 3)[1]? = some (.int .i32 0) := by rw [airL_3]; rfl
  rwa [List.getElem?_take] at this
/-- A new atmosphere: its zero, and what there is behind its allocation. -/
theorem air_new : ∃ Z : Array Value, (∀ w, (zeroValue 36).run Tryz.prog w = .ok (.agg Z) w) ∧ ∀ w : World, AirO w.heap.size 0 0 (fun _ => 0) (w.alloc (.cells Z 36)) ∧ Below w.heap.size w (w.alloc (.cells Z 36)) ∧ (w.alloc (.cells Z 36)).heap.size = w.heap.size + 1 := by
  refine ⟨airL.toArray, airL_zero, fun w => ?_⟩
  have H := Held.new w airL 36
  exact ⟨⟨H.lt, H.c 0 _ airL_0, H.c 1 _ airL_1, fun i hi => H.c (3 + i) _ (airL_at i hi), fun o ho => H.f o (by rw [airL_len]; exact ho)⟩, (by repeat (first | exact Below.refl _ _ | assumption | apply Below.drew | apply below_drewN | (refine Below.alloc ?_ (by first | exact Nat.le_refl _ | omega | (simp <;> omega)) _) | (refine Below.setCell ?_ (by first | exact Nat.le_refl _ | omega | (simp <;> omega)) _))), by simp⟩
end Go.Proofs.YtecpmffmmiogfaaGreat
