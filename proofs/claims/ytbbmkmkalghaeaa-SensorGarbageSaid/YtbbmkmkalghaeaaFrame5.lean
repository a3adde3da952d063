/- The chapter's example of frames; the laws FramePuts and FrameTakes; walked. -/
import Derived.Test.YtbbmkmkalghaeaaFrame4
import Derived.Deep.Cut
namespace Go.Proofs.Ytbbmkmkalghaeaa
open Go.ChangeShapes Go.WideShapes Go.ChangeAt Go.RowKit
set_option linter.unusedVariables false
set_option linter.unusedSimpArgs false

theorem row3u {W : World} {b : Nat} {p q r : Int} (hb : b < W.heap.size) (h0 : W.cell? ⟨b, 0, none⟩ = some (.int .u8 p)) (h1 : W.cell? ⟨b, 1, none⟩ = some (.int .u8 q)) (h2 : W.cell? ⟨b, 2, none⟩ = some (.int .u8 r)) : RowIs .u8 W (some ⟨b, 0, none⟩) [p, q, r] :=
  .inr ⟨b, 0, rfl, hb, fun i hi => by
    rcases i with _ | _ | _ | i
    · exact h0
    · exact h1
    · exact h2
    · have h2 : i + 1 + 1 + 1 < 3 := hi
      omega⟩
/-- A row of the call's own, further on. -/
theorem own_below {w w' : World} {B n : Nat} {v : Value} {xs : List Value} {T : TypeId} (h : w.ownsRow B T 1 v n xs) (k : Below w.heap.size w w') : w'.ownsRow B T 1 v n xs :=
  h.kept (row := none) ⟨k.os, k.tape, k.output, k.size, fun j hj _ => k.block j hj⟩ (by cases v.ownBlock <;> simp)
theorem fp_box (w : World) (i s v t : Int) : ∃ V, V = (w.alloc (.cells #[.int .i64 i, .int .i64 s, .int .i64 v, .int .i64 t] 45)) ∧ Below w.heap.size w V ∧ V.heap.size = w.heap.size + 1 ∧ ∀ u, Below (w.heap.size + 1) V u → u.cell? ⟨w.heap.size, 0, none⟩ = some (.int .i64 i) ∧ u.cell? ⟨w.heap.size, 1, none⟩ = some (.int .i64 s) ∧ u.cell? ⟨w.heap.size, 2, none⟩ = some (.int .i64 v) ∧ u.cell? ⟨w.heap.size, 3, none⟩ = some (.int .i64 t) :=
  ⟨_, rfl, (by repeat (first | exact Below.refl _ _ | assumption | apply Below.drew | apply below_drewN | (refine Below.alloc ?_ (by first | exact Nat.le_refl _ | omega | (simp <;> omega)) _) | (refine Below.setCell ?_ (by first | exact Nat.le_refl _ | omega | (simp <;> omega)) _))), by simp, fun u hu => ⟨(bc hu (by omega)).trans (by go_simp), (bc hu (by omega)).trans (by go_simp), (bc hu (by omega)).trans (by go_simp), (bc hu (by omega)).trans (by go_simp)⟩⟩

theorem fk_box (w : World) (a b c d : Int) : ∃ V, V = (w.alloc (.cells #[.int .i64 a, .int .i64 b, .int .i64 c, .int .i64 d] 45)) ∧ Below w.heap.size w V ∧ V.heap.size = w.heap.size + 1 ∧ ∀ u, Below (w.heap.size + 1) V u → u.cell? ⟨w.heap.size, 0, none⟩ = some (.int .i64 a) ∧ u.cell? ⟨w.heap.size, 1, none⟩ = some (.int .i64 b) ∧ u.cell? ⟨w.heap.size, 2, none⟩ = some (.int .i64 c) ∧ u.cell? ⟨w.heap.size, 3, none⟩ = some (.int .i64 d) :=
  ⟨_, rfl, (by repeat (first | exact Below.refl _ _ | assumption | apply Below.drew | apply below_drewN | (refine Below.alloc ?_ (by first | exact Nat.le_refl _ | omega | (simp <;> omega)) _) | (refine Below.setCell ?_ (by first | exact Nat.le_refl _ | omega | (simp <;> omega)) _))), by simp, fun u hu => ⟨(bc hu (by omega)).trans (by go_simp), (bc hu (by omega)).trans (by go_simp), (bc hu (by omega)).trans (by go_simp), (bc hu (by omega)).trans (by go_simp)⟩⟩
end Go.Proofs.Ytbbmkmkalghaeaa
