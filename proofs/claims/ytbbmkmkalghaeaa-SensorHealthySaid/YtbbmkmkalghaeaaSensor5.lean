/- What the laws of a sensor need beside it. -/
import Derived.Test.YtbbmkmkalghaeaaSensor4
import Derived.Deep.Cut
namespace Go.Proofs.Ytbbmkmkalghaeaa
open Go.ChangeShapes Go.WideShapes Go.ChangeAt Go.RowKit
set_option linter.unusedVariables false
set_option linter.unusedSimpArgs false
theorem gaE1_first {lo hi ra v : Int} (h1 : lo ≤ v) (h2 : v ≤ hi) (t : Int) : gaE lo hi ra 0 false t v = 0 := by
  unfold gaE gaF
  rw [if_neg (by omega), if_neg (by omega)]
  simp
theorem gaE1_near {lo hi ra la v : Int} (ok : GaOk lo hi ra) (h1 : lo ≤ v) (h2 : v ≤ hi) (d1 : v - la ≤ ra) (d2 : la - v ≤ ra) : gaE lo hi ra la true (gaT 0) v = 0 := by
  obtain ⟨o1, o2, o3, o4, o5⟩ := ok
  rw [show gaT 0 = 1 by decide]
  have hM : gaM ra 1 = ra := by
    unfold gaM
    rw [Int.mul_one, if_neg (by omega)]
  have hD : ¬ ra < (if v - la < la - v then la - v else v - la) := by split <;> omega
  unfold gaE gaF
  rw [if_neg (by omega), if_neg (by omega), hM]
  simp [hD]
theorem snW_ok {id pa ga of sl dr lo hi ra sh : Int} (h : snW id pa ga of sl dr lo hi ra sh = 0) : (0 ≤ id ∧ id ≤ 255 ∧ 0 ≤ pa ∧ pa ≤ 1000) ∧ clR ga of sl dr = true ∧ gaR lo hi ra = true ∧ (0 ≤ sh ∧ sh ≤ 16) := by
  have h1 : ¬ (id < 0 ∨ 255 < id ∨ pa < 0 ∨ 1000 < pa) := by intro q; unfold snW at h; rw [if_pos q] at h; omega
  have hc : clR ga of sl dr = true := by
    cases q : clR ga of sl dr
    · unfold snW at h; rw [if_neg h1, if_pos q] at h; omega
    · rfl
  have hg : gaR lo hi ra = true := by
    cases q : gaR lo hi ra
    · unfold snW at h; rw [if_neg h1, if_neg (by simp [hc]), if_pos q] at h; omega
    · rfl
  have hs : 0 ≤ sh ∧ sh ≤ 16 := by
    have : ¬ (sh < 0 ∨ 16 < sh) := by intro q; unfold snW at h; rw [if_neg h1, if_neg (by simp [hc]), if_neg (by simp [hg]), if_pos q] at h; omega
    omega
  exact ⟨by omega, hc, hg, hs⟩
theorem pf_box (w : World) (id pa sh ga of sl dr lo hi ra fi fs fv ft : Int) : ∃ V, V = (w.alloc (.cells #[.int .i64 id, .int .i64 pa, .int .i64 sh, .int .i64 ga, .int .i64 of, .int .i64 sl, .int .i64 dr, .int .i64 lo, .int .i64 hi, .int .i64 ra] 27)).alloc (.cells #[.int .i64 fi, .int .i64 fs, .int .i64 fv, .int .i64 ft] 45) ∧ Below w.heap.size w V ∧ Held w.heap.size [.int .i64 id, .int .i64 pa, .int .i64 sh, .int .i64 ga, .int .i64 of, .int .i64 sl, .int .i64 dr, .int .i64 lo, .int .i64 hi, .int .i64 ra] V ∧ Held (w.heap.size + 1) [.int .i64 fi, .int .i64 fs, .int .i64 fv, .int .i64 ft] V ∧ V.heap.size = w.heap.size + 2 := by
  refine ⟨_, rfl, (by repeat (first | exact Below.refl _ _ | assumption | apply Below.drew | apply below_drewN | (refine Below.alloc ?_ (by first | exact Nat.le_refl _ | omega | (simp <;> omega)) _) | (refine Below.setCell ?_ (by first | exact Nat.le_refl _ | omega | (simp <;> omega)) _))), (Held.new w [.int .i64 id, .int .i64 pa, .int .i64 sh, .int .i64 ga, .int .i64 of, .int .i64 sl, .int .i64 dr, .int .i64 lo, .int .i64 hi, .int .i64 ra] _).alloc _, ?_, by simp⟩
  have := Held.new (w.alloc (.cells #[.int .i64 id, .int .i64 pa, .int .i64 sh, .int .i64 ga, .int .i64 of, .int .i64 sl, .int .i64 dr, .int .i64 lo, .int .i64 hi, .int .i64 ra] 27)) [.int .i64 fi, .int .i64 fs, .int .i64 fv, .int .i64 ft] 45
  simpa using this
theorem clq_in {v : Int} (h1 : -549755813887 ≤ v) (h2 : v ≤ 549755813887) : clq v = v := by unfold clq; omega
/-- The step of a sensor whose frame counts, as the law wants it. -/
theorem sh_step {b l g y : Nat} {id pa ga of sl dr lo hi ra sh li sq lv lt last yv q x ft V Z : Int} {k : Nat} {had : Bool} (u : World) (S : Sn b l g y ga of sl dr (lkC id pa li sq lv lt had 0 (k : Int) 0) (gaC lo hi ra last had 0) (lgC sh yv had) u)
    (hid : 0 ≤ id ∧ id ≤ 255 ∧ 0 ≤ pa ∧ pa ≤ 1000) (cr : clR ga of sl dr = true) (gr : gaR lo hi ra = true) (hs : 0 ≤ sh ∧ sh ≤ 16) (hk : k < 100)
    (hf : frB id q x ft = true) (y1 : -549755813887 ≤ yv) (y2 : yv ≤ 549755813887) (l0 : -549755813887 ≤ last) (l1 : last ≤ 549755813887)
    (eV : V = clV ga of sl dr x ft) (v1 : lo ≤ V) (v2 : V ≤ hi) (hh : (had = false ∧ last = 0) ∨ (had = true ∧ V - last ≤ ra ∧ last - V ≤ ra ∧ 0 ≤ sq ∧ sq ≤ 255 ∧ q = (sq + 1) % 256)) (eZ : Z = lgV sh (if had then yv else V) V)
    (g5 c5 : Nat) (hr : RowIs .u8 u (some ⟨g5, 0, none⟩) (puL id q x ft)) (hg : g5 ≠ l) :
    Calls Try.prog 19 #[.pointer (some ⟨b, 0, none⟩), .slice (some ⟨g5, 0, none⟩) 8 c5] u (SnE b l g y ga of sl dr (lkC id pa id q x ft true 0 ((k : Int) + 1) 0) (gaC lo hi ra V true 0) (lgC sh Z true) Z 0 u) := by
  have ok := gaR_ok gr
  have o2 := ok.b
  have o3 := ok.c
  have eq : clq V = V := clq_in (by omega) (by omega)
  have eE : (0 : Int) = gaE lo hi ra last had (gaT 0) V := by
    rcases hh with ⟨rfl, rfl⟩ | ⟨rfl, d1, d2, -, -, -⟩
    · exact (gaE1_first v1 v2 _).symm
    · exact (gaE1_near ok v1 v2 d1 d2).symm
  have LK : ∀ u' (Su : Sn b l g y ga of sl dr (lkC id pa li sq lv lt had 0 (k : Int) 0) (gaC lo hi ra last had 0) (lgC sh yv had) u') (hu : Below u.heap.size u u'), LS l (lkC id pa li sq lv lt had 0 (k : Int) 0) (lkC id pa id q x ft true 0 ((k : Int) + 1) 0) (some ⟨g5, 0, none⟩) 8 c5 id q x ft 0 u' := by
    intro u' Su hu
    rcases hh with ⟨rfl, -⟩ | ⟨rfl, -, -, s0, s1, hq⟩
    · exact lkp_new l g5 c5 u' Su.hl (by decide) (by omega) hf (hr.below hu) hg
    · exact lkp_ok l g5 c5 u' Su.hl (by decide) (by omega) hf (hr.below hu) hg ⟨s0, s1⟩ hq
  exact sstep_yes u S rfl (fun u' Su hu => saccept_ok (V := V) (E := 0) (A := V) (B := true) (N := 0) u' Su (LK u' Su hu) cr ok (by decide) (by decide) l0 l1 eV eE (by simp [gaA]) (by simp [gaB]) (by simp [gaN])) hs.1 hs.2 y1 y2 (by rw [eq]; exact eZ)
end Go.Proofs.Ytbbmkmkalghaeaa
