/- The document's rows of digits: long division; walked. -/
import Derived.Test.YtecpmffmmiogfaaDig3
import Derived.Deep.Cut
import Derived.Test.YtecpmffmmiogfaaDig4
namespace Go.Proofs.Ytecpmffmmiogfaa
open Go.ChangeShapes Go.WideShapes Go.ChangeAt Go.RowKit
set_option linter.unusedVariables false
set_option linter.unusedSimpArgs false

/-- What a division has in memory: both numbers, two results, the quotient and what is left. -/
structure Six (s : Nat) (A B : Int) (q r : Nat → Int) (w v : World) : Prop where
  a : Rw s (dg A) v
  b : Rw (s + 1) (dg B) v
  y : Rw (s + 2) (fun _ => 0) v
  z : Rw (s + 3) (fun _ => 0) v
  q : Rw (s + 4) q v
  r : Rw (s + 5) r v
  bel : Below s w v
theorem Six.go {s : Nat} {A B : Int} {q r : Nat → Int} {w v v' : World} (h : Six s A B q r w v) (k : Below v.heap.size v v') : Six s A B q r w v' :=
  ⟨h.a.bel k, h.b.bel k, h.y.bel k, h.z.bel k, h.q.bel k, h.r.bel k, h.bel.trans (k.mono (Nat.le_of_lt h.a.lt))⟩
theorem Six.drew {s : Nat} {A B : Int} {q r : Nat → Int} {w v : World} (h : Six s A B q r w v) : Six s A B q r w v.drew := ⟨h.a.drew, h.b.drew, h.y.drew, h.z.drew, h.q.drew, h.r.drew, h.bel.drew⟩
theorem Six.putR {s : Nat} {A B : Int} {q r : Nat → Int} {w v : World} (h : Six s A B q r w v) (g : Nat → Int) : Six s A B q g w (rput (s + 5) g v) :=
  ⟨h.a.puto (by omega) g, h.b.puto (by omega) g, h.y.puto (by omega) g, h.z.puto (by omega) g, h.q.puto (by omega) g, h.r.put g, rput_below h.bel (by omega) g⟩
theorem Six.putQ {s : Nat} {A B : Int} {q r : Nat → Int} {w v : World} (h : Six s A B q r w v) (g : Nat → Int) : Six s A B g r w (rput (s + 4) g v) :=
  ⟨h.a.puto (by omega) g, h.b.puto (by omega) g, h.y.puto (by omega) g, h.z.puto (by omega) g, h.q.put g, h.r.puto (by omega) g, rput_below h.bel (by omega) g⟩
theorem Six.setR {s : Nat} {A B : Int} {q r : Nat → Int} {w v : World} (h : Six s A B q r w v) (i : Nat) (x : Int) (hi : i < 12) : Six s A B q (upd r i x) w (v.setCell ⟨s + 5, i, none⟩ (.int .u64 x)) :=
  ⟨h.a.other (by omega) _ _, h.b.other (by omega) _ _, h.y.other (by omega) _ _, h.z.other (by omega) _ _, h.q.other (by omega) _ _, h.r.set i x hi, h.bel.setCell (p := ⟨s + 5, i, none⟩) (by show s ≤ s + 5; omega) _⟩
theorem Six.setQ {s : Nat} {A B : Int} {q r : Nat → Int} {w v : World} (h : Six s A B q r w v) (i : Nat) (x : Int) (hi : i < 12) : Six s A B (upd q i x) r w (v.setCell ⟨s + 4, i, none⟩ (.int .u64 x)) :=
  ⟨h.a.other (by omega) _ _, h.b.other (by omega) _ _, h.y.other (by omega) _ _, h.z.other (by omega) _ _, h.q.set i x hi, h.r.other (by omega) _ _, h.bel.setCell (p := ⟨s + 4, i, none⟩) (by show s ≤ s + 4; omega) _⟩
theorem Six.congr {s : Nat} {A B : Int} {q r q' r' : Nat → Int} {w v : World} (h : Six s A B q r w v) (eq : ∀ i, i < 12 → q i = q' i) (er : ∀ i, i < 12 → r i = r' i) : Six s A B q' r' w v := ⟨h.a, h.b, h.y, h.z, h.q.congr eq, h.r.congr er, h.bel⟩

theorem dg_bit_plus {R x : Int} (h0 : 0 ≤ R) (h1 : 2 * R + 1 < pw 12) (hx0 : 0 ≤ x) (hx1 : x ≤ 1) : (dg (2 * R) 0 + x < 65536) ∧ ∀ i, i < 12 → upd (dg (2 * R)) 0 (dg (2 * R) 0 + x) i = dg (2 * R + x) i := by
  have e : dg (2 * R) 0 = 2 * R % 65536 := by simp [dg, pw]
  have hb := dg_bd (2 * R) 0
  refine ⟨by omega, digits_of ((dg_ds _ 12).upd 0 (by omega) (by omega)) ?_⟩
  rw [sm_upd _ 0 _ 12 (by omega), sm_dg12 (by omega) (by omega)]
  simp [pw]
  omega

end Go.Proofs.Ytecpmffmmiogfaa
