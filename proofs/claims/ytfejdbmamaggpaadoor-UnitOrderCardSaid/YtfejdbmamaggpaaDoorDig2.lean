/- Twelve digits in memory; the document's rows of digits: Of. -/
import Derived.Test.YtfejdbmamaggpaaDoorNum
import Derived.Test.YtfejdbmamaggpaaDoorObj
import Derived.Test.YtfejdbmamaggpaaDoorDig
namespace Go.Proofs.YtfejdbmamaggpaaDoor
open Go.ChangeShapes Go.WideShapes Go.ChangeAt Go.RowKit
set_option linter.unusedVariables false
set_option linter.unusedSimpArgs false

/-- Block b holds the digits f. -/
structure Rw (b : Nat) (f : Nat → Int) (w : World) : Prop where
  lt : b < w.heap.size
  c : ∀ i, i < 12 → w.cell? ⟨b, i, none⟩ = some (.int .u64 (f i))
  f : ∀ i, i < 12 → w.frozen? ⟨b, i, none⟩ = false
theorem Rw.below {b B : Nat} {f : Nat → Int} {w w' : World} (h : Rw b f w) (k : Below B w w') (hb : b < B) : Rw b f w' :=
  ⟨Nat.lt_of_lt_of_le h.lt k.size, fun i hi => (k.cell (p := ⟨b, i, none⟩) hb).trans (h.c i hi), fun i hi => (k.frozen (p := ⟨b, i, none⟩) hb).trans (h.f i hi)⟩
theorem Rw.bel {b : Nat} {f : Nat → Int} {w w' : World} (h : Rw b f w) (k : Below w.heap.size w w') : Rw b f w' := h.below k h.lt
theorem Rw.alloc {b : Nat} {f : Nat → Int} {w : World} (h : Rw b f w) (x : Obj) : Rw b f (w.alloc x) := h.bel ((Below.refl _ _).alloc (Nat.le_refl _) x)
theorem Rw.other {b b' : Nat} {f : Nat → Int} {w : World} (h : Rw b f w) (hb : b ≠ b') (i : Nat) (v : Value) : Rw b f (w.setCell ⟨b', i, none⟩ v) :=
  ⟨by simpa using h.lt, fun j hj => by
    rw [World.cell?_setCell_other w ⟨b', i, none⟩ ⟨b, j, none⟩ v (fun he => hb (by injection he with h1 _ _; exact h1.symm))]; exact h.c j hj, fun j hj => by
    have := h.f j hj; simpa using this⟩
theorem Rw.set {b : Nat} {f : Nat → Int} {w : World} (h : Rw b f w) (i : Nat) (v : Int) (hi : i < 12) : Rw b (upd f i v) (w.setCell ⟨b, i, none⟩ (.int .u64 v)) := by
  have h0 := h.c i hi
  refine ⟨by simpa using h.lt, fun j hj => ?_, fun j hj => ?_⟩
  · by_cases e : j = i
    · subst e
      rw [upd_same]
      exact World.cell?_setCell_same w _ _ h0
    · rw [upd_ne f v e, World.cell?_setCell_other w ⟨b, i, none⟩ ⟨b, j, none⟩ _ (fun he => e (by injection he with _ h2 _; exact h2.symm))]
      exact h.c j hj
  · have := h.f j hj
    simpa using this
theorem Rw.congr {b : Nat} {f g : Nat → Int} {w : World} (h : Rw b f w) (e : ∀ i, i < 12 → f i = g i) : Rw b g w := ⟨h.lt, fun i hi => by rw [h.c i hi, e i hi], h.f⟩
theorem Rw.as {b : Nat} {f : Nat → Int} {w w' : World} (h : Rw b f w) (e : w'.heap = w.heap) : Rw b f w' := by
  have e1 : ∀ p, w'.cell? p = w.cell? p := fun p => World.cell?_of_block (by rw [e])
  have e2 : ∀ p, w'.frozen? p = w.frozen? p := fun p => World.frozen?_of_block (by rw [e])
  exact ⟨by rw [e]; exact h.lt, fun i hi => (e1 _).trans (h.c i hi), fun i hi => (e2 _).trans (h.f i hi)⟩
theorem Rw.drew {b : Nat} {f : Nat → Int} {w : World} (h : Rw b f w) : Rw b f w.drew := ⟨h.lt, h.c, h.f⟩
theorem Rw.drewN {b : Nat} {f : Nat → Int} {w : World} (h : Rw b f w) (n : Nat) : Rw b f (w.drewN n) := ⟨h.lt, h.c, h.f⟩
/-- The cells of a row of digits. -/
abbrev rwc (f : Nat → Int) : Array Value := #[.int .u64 (f 0), .int .u64 (f 1), .int .u64 (f 2), .int .u64 (f 3), .int .u64 (f 4), .int .u64 (f 5), .int .u64 (f 6), .int .u64 (f 7), .int .u64 (f 8), .int .u64 (f 9), .int .u64 (f 10), .int .u64 (f 11)]
theorem Rw.new (w : World) (f : Nat → Int) (t : TypeId) : Rw w.heap.size f (w.alloc (.cells (rwc f) t)) :=
  ⟨by simp, fun i hi => by
    rcases i with _ | _ | _ | _ | _ | _ | _ | _ | _ | _ | _ | _ | i
    all_goals first | omega | simp, fun i hi => by simp⟩
theorem Rw.new' {w : World} {b : Nat} (f : Nat → Int) (t : TypeId) (h : w.heap.size = b) : Rw b f (w.alloc (.cells (rwc f) t)) := h ▸ Rw.new w f t
/-- A number of at most twelve digits, as a row. -/
abbrev rwv (N : Int) : Value := .agg (rwc (dg N))

/-- What a loop over the digits holds: the first k of the new row are done, the others are 0. -/
def Upto (g f : Nat → Int) (k : Nat) : Prop := (∀ j, j < k → f j = g j) ∧ ∀ j, k ≤ j → f j = 0
theorem Upto.start (g : Nat → Int) : Upto g (fun _ => 0) 0 := ⟨fun j h => by omega, fun _ _ => rfl⟩
theorem Upto.step {g f : Nat → Int} {k : Nat} (h : Upto g f k) {v : Int} (e : v = g k) : Upto g (upd f k v) (k + 1) := ⟨fun j hj => by
  by_cases e1 : j = k
  · subst e1; rw [upd_same, e]
  · rw [upd_ne f v e1]; exact h.1 j (by omega), fun j hj => by rw [upd_ne f v (by omega)]; exact h.2 j (by omega)⟩
theorem Rw.all {b : Nat} {f : Nat → Int} {w : World} (h : Rw b f w) : w.cell? ⟨b, 0, none⟩ = some (.int .u64 (f 0)) ∧ w.cell? ⟨b, 1, none⟩ = some (.int .u64 (f 1)) ∧ w.cell? ⟨b, 2, none⟩ = some (.int .u64 (f 2)) ∧ w.cell? ⟨b, 3, none⟩ = some (.int .u64 (f 3)) ∧ w.cell? ⟨b, 4, none⟩ = some (.int .u64 (f 4)) ∧ w.cell? ⟨b, 5, none⟩ = some (.int .u64 (f 5)) ∧ w.cell? ⟨b, 6, none⟩ = some (.int .u64 (f 6)) ∧ w.cell? ⟨b, 7, none⟩ = some (.int .u64 (f 7)) ∧ w.cell? ⟨b, 8, none⟩ = some (.int .u64 (f 8)) ∧ w.cell? ⟨b, 9, none⟩ = some (.int .u64 (f 9)) ∧ w.cell? ⟨b, 10, none⟩ = some (.int .u64 (f 10)) ∧ w.cell? ⟨b, 11, none⟩ = some (.int .u64 (f 11)) :=
  ⟨h.c 0 (by omega), h.c 1 (by omega), h.c 2 (by omega), h.c 3 (by omega), h.c 4 (by omega), h.c 5 (by omega), h.c 6 (by omega), h.c 7 (by omega), h.c 8 (by omega), h.c 9 (by omega), h.c 10 (by omega), h.c 11 (by omega)⟩
theorem Rw.allf {b : Nat} {f : Nat → Int} {w : World} (h : Rw b f w) : w.frozen? ⟨b, 0, none⟩ = false ∧ w.frozen? ⟨b, 1, none⟩ = false ∧ w.frozen? ⟨b, 2, none⟩ = false ∧ w.frozen? ⟨b, 3, none⟩ = false ∧ w.frozen? ⟨b, 4, none⟩ = false ∧ w.frozen? ⟨b, 5, none⟩ = false ∧ w.frozen? ⟨b, 6, none⟩ = false ∧ w.frozen? ⟨b, 7, none⟩ = false ∧ w.frozen? ⟨b, 8, none⟩ = false ∧ w.frozen? ⟨b, 9, none⟩ = false ∧ w.frozen? ⟨b, 10, none⟩ = false ∧ w.frozen? ⟨b, 11, none⟩ = false :=
  ⟨h.f 0 (by omega), h.f 1 (by omega), h.f 2 (by omega), h.f 3 (by omega), h.f 4 (by omega), h.f 5 (by omega), h.f 6 (by omega), h.f 7 (by omega), h.f 8 (by omega), h.f 9 (by omega), h.f 10 (by omega), h.f 11 (by omega)⟩

/-- The whole row written at once. -/
def rput (b : Nat) (g : Nat → Int) (w : World) : World := ((((((((((((w.setCell ⟨b, 0, none⟩ (.int .u64 (g 0))).setCell ⟨b, 1, none⟩ (.int .u64 (g 1))).setCell ⟨b, 2, none⟩ (.int .u64 (g 2))).setCell ⟨b, 3, none⟩ (.int .u64 (g 3))).setCell ⟨b, 4, none⟩ (.int .u64 (g 4))).setCell ⟨b, 5, none⟩ (.int .u64 (g 5))).setCell ⟨b, 6, none⟩ (.int .u64 (g 6))).setCell ⟨b, 7, none⟩ (.int .u64 (g 7))).setCell ⟨b, 8, none⟩ (.int .u64 (g 8))).setCell ⟨b, 9, none⟩ (.int .u64 (g 9))).setCell ⟨b, 10, none⟩ (.int .u64 (g 10))).setCell ⟨b, 11, none⟩ (.int .u64 (g 11)))
theorem Rw.put {b : Nat} {f : Nat → Int} {w : World} (h : Rw b f w) (g : Nat → Int) : Rw b g (rput b g w) := by
  refine Rw.congr (((((((((((((h.set 0 (g 0) (by omega)).set 1 (g 1) (by omega)).set 2 (g 2) (by omega)).set 3 (g 3) (by omega)).set 4 (g 4) (by omega)).set 5 (g 5) (by omega)).set 6 (g 6) (by omega)).set 7 (g 7) (by omega)).set 8 (g 8) (by omega)).set 9 (g 9) (by omega)).set 10 (g 10) (by omega)).set 11 (g 11) (by omega))) (fun i hi => ?_)
  rcases i with _ | _ | _ | _ | _ | _ | _ | _ | _ | _ | _ | _ | i
  all_goals first | omega | rfl
theorem Rw.puto {b b' : Nat} {f : Nat → Int} {w : World} (h : Rw b f w) (hb : b ≠ b') (g : Nat → Int) : Rw b f (rput b' g w) :=
  (((((((((((h.other hb 0 _).other hb 1 _).other hb 2 _).other hb 3 _).other hb 4 _).other hb 5 _).other hb 6 _).other hb 7 _).other hb 8 _).other hb 9 _).other hb 10 _).other hb 11 _
theorem rput_below {B b : Nat} {v w : World} (h : Below B v w) (hB : B ≤ b) (g : Nat → Int) : Below B v (rput b g w) :=
  (((((((((((h.setCell (p := ⟨b, 0, none⟩) hB _).setCell (p := ⟨b, 1, none⟩) hB _).setCell (p := ⟨b, 2, none⟩) hB _).setCell (p := ⟨b, 3, none⟩) hB _).setCell (p := ⟨b, 4, none⟩) hB _).setCell (p := ⟨b, 5, none⟩) hB _).setCell (p := ⟨b, 6, none⟩) hB _).setCell (p := ⟨b, 7, none⟩) hB _).setCell (p := ⟨b, 8, none⟩) hB _).setCell (p := ⟨b, 9, none⟩) hB _).setCell (p := ⟨b, 10, none⟩) hB _).setCell (p := ⟨b, 11, none⟩) hB _

set_option maxHeartbeats 1000000 in
theorem rof_pos (n : Int) (w : World) (h1 : 0 ≤ n) (h2 : n ≤ 9223372036854775807) :
    Calls Tryd.prog 115 #[.int .i64 n] w fun e w' => e = .returned (rwv n) ∧ Below w.heap.size w w' := by
  have d0 : decide (n < 0) = false := decide_eq_false (by omega)
  go_enter Tryd.func115, Tryd.ntmps115
  go_wp2
  go_loopw [0, 5] (fun a i v => ∃ (k : Nat) (f : Nat → Int), k ≤ 12 ∧ i = .int .i64 k ∧ a = .int .i64 (n / pw k) ∧ Rw (w.heap.size + 1) f v ∧ Rw w.heap.size (fun _ => 0) v ∧ Below w.heap.size w v ∧ Hid (Upto (dg n) f k)) (fun _ i _ => 12 - (intOf i).toNat)
  case atStart => exact ⟨0, fun _ => 0, by omega, rfl, by simp [pw], Rw.new' (fun _ => 0) 160 (by simp), (Rw.new w (fun _ => 0) 160).alloc _, (by repeat (first | exact Below.refl _ _ | assumption | apply Below.drew | apply below_drewN | (refine Below.alloc ?_ (by first | exact Nat.le_refl _ | omega | (simp <;> omega)) _) | (refine Below.setCell ?_ (by first | exact Nat.le_refl _ | omega | (simp <;> omega)) _))), Lib.hid (Upto.start _)⟩
  case round =>
    obtain ⟨k, f, hk, rfl, rfl, hR, hZ, hb, hU⟩ := hrel
    have hm : 0 ≤ n / pw k ∧ n / pw k ≤ 9223372036854775807 := ⟨Int.ediv_nonneg h1 (by have := pw_pos k; omega), Int.le_trans (Int.ediv_le_self _ h1) h2⟩
    have hd := Lib.hid (show n / pw k % 65536 = dg n k from rfl)
    have hs := Lib.hid (div_pw_succ n k)
    generalize n / pw k = m at *
    by_cases hlt : k < 12
    · have hf := hR.f k hlt
      have hc := hR.c k hlt
      go_wp2
      go_roundw
      case rel => exact ⟨k + 1, upd f k (dg n k), by omega, by go_num, by rw [hs.out], by have := hR.set k (dg n k) hlt; rw [← hd.out] at this ⊢; exact this, hZ.other (by omega) _ _, hb.setCell (by simp) _, Lib.hid (hU.out.step rfl)⟩
      case measure => simp [intOf]; omega
    · obtain rfl : k = 12 := by omega
      have hR := hR.congr (fun i hi => hU.out.1 i hi)
      obtain ⟨c0, c1, c2, c3, c4, c5, c6, c7, c8, c9, c10, c11⟩ := hR.all
      obtain ⟨z0, z1, z2, z3, z4, z5, z6, z7, z8, z9, z10, z11⟩ := hZ.all
      obtain ⟨y0, y1, y2, y3, y4, y5, y6, y7, y8, y9, y10, y11⟩ := hZ.allf
      go_wp2
      change bodyPost _ _ _ _ _ (rput w.heap.size (dg n) wr)
      have hW := hZ.put (dg n)
      have hB := rput_below hb (Nat.le_refl _) (dg n)
      clear c0 c1 c2 c3 c4 c5 c6 c7 c8 c9 c10 c11 z0 z1 z2 z3 z4 z5 z6 z7 z8 z9 z10 z11 y0 y1 y2 y3 y4 y5 y6 y7 y8 y9 y10 y11
      generalize rput w.heap.size (dg n) wr = wz at *
      obtain ⟨c0, c1, c2, c3, c4, c5, c6, c7, c8, c9, c10, c11⟩ := hW.all
      refine bodyPost_ret (v := rwv n) (by simp [results, Tryd.results115, go_sem, rwv, c0, c1, c2, c3, c4, c5, c6, c7, c8, c9, c10, c11]) rfl ⟨rfl, hB⟩
end Go.Proofs.YtfejdbmamaggpaaDoor
