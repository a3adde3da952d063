/- The law SensorGarbage; walked. -/
import Derived.Test.YtbbmkmkalghaeaaSensor5
import Derived.Test.YtbbmkmkalghaeaaGridb
import Derived.Deep.Cut
namespace Go.Proofs.Ytbbmkmkalghaeaa
open Go.ChangeShapes Go.WideShapes Go.ChangeAt Go.RowKit
set_option linter.unusedVariables false
set_option linter.unusedSimpArgs false
theorem tkE_six (l : List Int) : tkE l ≠ 6 := by
  unfold tkE
  split
  · split
    · split <;> omega
    · omega
  · omega
/-- A link hears bytes that are no frame of its own. -/
theorem lk_garb {id pa i s v t ag ta re : Int} {kn : Bool} (l : Nat) (R : List Int) (a : Option Addr) (cap : Nat) (ha : 0 ≤ ag ∧ ag ≤ 1000000) (hr0 : 0 ≤ re ∧ re ≤ 1000) (hL : R.length ≤ maxLen) (hB : BYT R) (hx : ¬ (tkE R = 0 ∧ tkI R = id)) (hne : 0 < R.length → ∀ x, a = some x → x.block ≠ l) :
    ∃ ee re' : Int, ee ≠ 0 ∧ ee ≠ 6 ∧ 0 ≤ re' ∧ re' ≤ re + 1 ∧ ∀ u, Held l (lkC id pa i s v t kn ag ta re) u → RowIs .u8 u a R → LS l (lkC id pa i s v t kn ag ta re) (lkC id pa i s v t kn (agN ag) ta re') a R.length cap 0 0 0 0 ee u := by
  by_cases h0 : R = []
  · subst h0
    exact ⟨10, re, by decide, by decide, hr0.1, by omega, fun u hu _ => lkstep_none l u hu ha a cap⟩
  have hp : 0 < R.length := Nat.pos_of_ne_zero (fun e => h0 (List.eq_nil_of_length_eq_zero e))
  by_cases hE : tkE R = 0
  · have hI : tkI R ≠ id := fun e => hx ⟨hE, e⟩
    exact ⟨10, re + 1, by decide, by decide, by omega, by omega, fun u hu hru => lkstep_err l u hu ha (by omega) (by omega) R a cap hru (hne hp) hp hL (fun u' hu' hru' => lkrcv_id l R u' hu' a cap hru' hL hB hE hI)⟩
  · exact ⟨tkE R, re + 1, hE, tkE_six R, by omega, by omega, fun u hu hru => lkstep_err l u hu ha (by omega) hE R a cap hru (hne hp) hp hL (fun u' hu' hru' => lkrcv_bad l R u' hu' a cap hru' hL hB hE)⟩
theorem gaT_n {tk : Int} (h0 : 0 ≤ tk) (h1 : tk ≤ 999) : 0 ≤ gaT tk ∧ gaT tk ≤ tk + 1 := by unfold gaT; omega
theorem agN_n {k : Nat} (h : k < 100) : agN (k : Int) = ((k + 1 : Nat) : Int) := by unfold agN; push_cast; omega
/-- What stands behind the first step. -/
theorem sg_first {b l g y : Nat} {id pa ga of sl dr lo hi ra sh fs fv ft : Int} (u : World) (S : Sn b l g y ga of sl dr (lkC id pa 0 0 0 0 false 0 0 0) (gaC lo hi ra 0 false 0) (lgC sh 0 false) u)
    (hid : 0 ≤ id ∧ id ≤ 255 ∧ 0 ≤ pa ∧ pa ≤ 1000) (cr : clR ga of sl dr = true) (gr : gaR lo hi ra = true) (hs : 0 ≤ sh ∧ sh ≤ 16) (hf : frB id fs fv ft = true)
    (g5 c5 : Nat) (hr : RowIs .u8 u (some ⟨g5, 0, none⟩) (puL id fs fv ft)) (hg : g5 ≠ l) :
    ∃ (F1 E la tk : Int) (gk yk : Bool), 0 ≤ tk ∧ tk ≤ 1 ∧ -549755813887 ≤ F1 ∧ F1 ≤ 549755813887 ∧ Calls Try.prog 19 #[.pointer (some ⟨b, 0, none⟩), .slice (some ⟨g5, 0, none⟩) 8 c5] u (SnE b l g y ga of sl dr (lkC id pa id fs fv ft true 0 1 0) (gaC lo hi ra la gk tk) (lgC sh F1 yk) F1 E u) := by
  have ok := gaR_ok gr
  have o2 := ok.b
  have o3 := ok.c
  have LK : ∀ u' (Su : Sn b l g y ga of sl dr (lkC id pa 0 0 0 0 false 0 0 0) (gaC lo hi ra 0 false 0) (lgC sh 0 false) u') (hu : Below u.heap.size u u'), LS l (lkC id pa 0 0 0 0 false 0 0 0) (lkC id pa id fs fv ft true 0 1 0) (some ⟨g5, 0, none⟩) 8 c5 id fs fv ft 0 u' := fun u' Su hu => lkp_new l g5 c5 u' Su.hl (by decide) (by omega) hf (hr.below hu) hg
  obtain ⟨V, eV⟩ : ∃ V, V = clV ga of sl dr fv ft := ⟨_, rfl⟩
  obtain ⟨E, eE⟩ : ∃ E, E = gaE lo hi ra 0 false (gaT 0) V := ⟨_, rfl⟩
  by_cases hE : E = 0
  · have hv : lo ≤ V ∧ V ≤ hi := by
      rw [hE] at eE
      unfold gaE at eE
      split at eE
      · omega
      · split at eE
        · omega
        · omega
    have eq : clq V = V := clq_in (by omega) (by omega)
    refine ⟨V, 0, V, 0, true, true, by omega, by omega, by omega, by omega, ?_⟩
    exact sstep_yes u S rfl (fun u' Su hu => saccept_ok (V := V) (E := 0) (A := V) (B := true) (N := 0) u' Su (LK u' Su hu) cr ok (by decide) (by decide) (by decide) (by decide) eV (by rw [← hE]; exact eE) (by simp [gaA]) (by simp [gaB]) (by simp [gaN])) hs.1 hs.2 (by decide) (by decide) (by rw [eq]; simp [lgV_self])
  · refine ⟨0, E, 0, 1, false, false, by omega, by omega, by omega, by omega, ?_⟩
    exact sstep_no u S hE (fun u' Su hu => saccept_ok (V := V) (E := E) (A := 0) (B := false) (N := 1) u' Su (LK u' Su hu) cr ok (by decide) (by decide) (by decide) (by decide) eV eE (by simp [gaA, hE]) (by simp [gaB, hE]) (by rw [gaN, if_neg hE]; decide)) (by rw [if_neg (by omega)])
/-- A step of garbage. -/
theorem sg_step {b l g y : Nat} {id pa ga of sl dr lo hi ra sh i s v t la tk yv ee re re' : Int} {k : Nat} {gk yk kn : Bool} {A : Option Addr} {n cap : Nat} (w : World) (S : Sn b l g y ga of sl dr (lkC id pa i s v t kn (k : Int) 1 re) (gaC lo hi ra la gk tk) (lgC sh yv yk) w) (hE : ee ≠ 0) (hk : k < 100) (t0 : 0 ≤ tk) (t1 : tk ≤ 1000)
    (HL : ∀ u, Below w.heap.size w u → Held l (lkC id pa i s v t kn (k : Int) 1 re) u → LS l (lkC id pa i s v t kn (k : Int) 1 re) (lkC id pa i s v t kn (agN (k : Int)) 1 re') A n cap 0 0 0 0 ee u) {E : Int} (eE : E = if pa < ((k + 1 : Nat) : Int) then 6 else ee) :
    Calls Try.prog 19 #[.pointer (some ⟨b, 0, none⟩), .slice A n cap] w (SnE b l g y ga of sl dr (lkC id pa i s v t kn ((k + 1 : Nat) : Int) 1 re') (gaC lo hi ra la gk (gaT tk)) (lgC sh yv yk) yv E w) := by
  rw [← agN_n hk] at eE ⊢
  exact sstep_no w S hE (fun u Su hu => saccept_err u Su (HL u hu Su.hl) hE t0 t1) eE
set_option maxRecDepth 100000 in
set_option maxHeartbeats 8000000 in
theorem law_SensorGarbage (id pa sh ga of sl dr lo hi ra fi fs fv ft : Int) (a : Option Addr) (GA : Nat → Option Addr) (GC : Nat → Nat) (cap : Nat) (Z : List (List Int)) (w : World) (hg' : GridIs .u8 w a GA GC Z) (hw : ∀ i, i < Z.length → (Z.getD i []).length ≤ maxLen ∧ ∀ n ∈ Z.getD i [], (Lit.int .u8 n).wf = true) (hZL : Z.length ≤ maxLen) : Calls Try.prog 6 #[.agg #[.int .i64 id, .int .i64 pa, .int .i64 sh, .int .i64 ga, .int .i64 of, .int .i64 sl, .int .i64 dr, .int .i64 lo, .int .i64 hi, .int .i64 ra], .agg #[.int .i64 fi, .int .i64 fs, .int .i64 fv, .int .i64 ft], .slice a Z.length cap] w fun e w' => e = .returned (.bool true) ∧ Below w.heap.size w w' := by
  have hL' : (Z.length : Int) ≤ 9223372036854775807 := by unfold maxLen at hZL; omega
  have LV := Lib.hid (fun u => lives17 u)
  have RF := fun u => rfright id fs fv ft u
  obtain ⟨V0, eV, hb0', hP0, hF0, hz0⟩ := pf_box w id pa sh ga of sl dr lo hi ra fi fs fv ft
  have GG := Lib.hid (fun u (h : Below w.heap.size w u) i (hi : i < Z.length) => (hg'.below h).at hi)
  have GR := Lib.hid (fun u (h : Below w.heap.size w u) i (hi : i < Z.length) => (hg'.below h).rows i hi)
  have GB := Lib.hid (fun i (hi : i < Z.length) (hp : 0 < (Z.getD i []).length) => show ∀ x, GA i = some x → x.block < w.heap.size from fun x hx => by
    obtain ⟨b9, o9, e9, hlt9, -⟩ := (hg'.rows i hi).at hp
    rw [e9] at hx
    injection hx with hx
    subst hx
    exact hlt9)
  have HW := Lib.hid (fun i (hi : i < Z.length) => show (Z.getD i []).length ≤ maxLen ∧ BYT (Z.getD i []) from ⟨(hw i hi).1, byt_of (hw i hi).2⟩)
  clear hg' hw
  replace eV := Lib.hid eV
  replace hz0 := Lib.hid hz0
  have SF := Lib.hid (fun u (hu : Below (w.heap.size + 2) V0 u) => show Held w.heap.size [.int .i64 id, .int .i64 pa, .int .i64 sh, .int .i64 ga, .int .i64 of, .int .i64 sl, .int .i64 dr, .int .i64 lo, .int .i64 hi, .int .i64 ra] (u.setCell ⟨w.heap.size + 1, 0, none⟩ (.int .i64 id)) ∧ Held (w.heap.size + 1) [.int .i64 id, .int .i64 fs, .int .i64 fv, .int .i64 ft] (u.setCell ⟨w.heap.size + 1, 0, none⟩ (.int .i64 id)) ∧ Below w.heap.size w (u.setCell ⟨w.heap.size + 1, 0, none⟩ (.int .i64 id)) ∧ Below (w.heap.size + 1) u (u.setCell ⟨w.heap.size + 1, 0, none⟩ (.int .i64 id)) from
    ⟨(hP0.below hu (by omega)).below ((Below.refl (w.heap.size + 1) u).setCell (by exact Nat.le_refl _) _) (by omega), (hF0.below hu (by omega)).set 0 _ (by simp), (hb0'.trans (hu.mono (by omega))).setCell (by show w.heap.size ≤ w.heap.size + 1; omega) _, (Below.refl (w.heap.size + 1) u).setCell (by exact Nat.le_refl _) _⟩)
  by_cases h0 : snW id pa ga of sl dr lo hi ra sh = 0
  case neg =>
    have NW := fun u => snew_no id pa ga of sl dr lo hi ra sh u h0
    generalize snW id pa ga of sl dr lo hi ra sh = C at *
    have d5 : (C != 0) = true := by simp [h0]
    replace NW := Lib.hid NW
    clear h0 RF
    obtain ⟨c0, z0⟩ := hP0.one 0 rfl
    obtain ⟨c1, z1⟩ := hP0.one 1 rfl
    obtain ⟨c2, z2⟩ := hP0.one 2 rfl
    obtain ⟨c3, z3⟩ := hP0.one 3 rfl
    obtain ⟨c4, z4⟩ := hP0.one 4 rfl
    obtain ⟨c5, z5⟩ := hP0.one 5 rfl
    obtain ⟨c6, z6⟩ := hP0.one 6 rfl
    obtain ⟨c7, z7⟩ := hP0.one 7 rfl
    obtain ⟨c8, z8⟩ := hP0.one 8 rfl
    obtain ⟨c9, z9⟩ := hP0.one 9 rfl
    go_enter Try.func6, Try.ntmps6
    go_upto_region 1 with (fail)
    rw [← eV.out]
    go_wp2_with fail
    refine (NW.out _).mono ?_
    rintro e w1 ⟨rfl, hb1⟩
    have hbb1 : Below (w.heap.size + 2) V0 w1 := (Below.refl _ V0).trans (hb1.mono (Nat.le_of_eq hz0.out.symm))
    have hP1 := hP0.below hbb1 (by omega)
    have hF1 := hF0.below hbb1 (by omega)
    have hbs := Lib.hid (SF.out _ hbb1).2.2.1
    clear c0 c1 c2 c3 c4 c5 c6 c7 c8 c9 z0 z1 z2 z3 z4 z5 z6 z7 z8 z9 hb1 hP0 hF0 SF
    obtain ⟨c0, z0⟩ := hP1.one 0 rfl
    obtain ⟨c1, z1⟩ := hP1.one 1 rfl
    obtain ⟨c2, z2⟩ := hP1.one 2 rfl
    obtain ⟨c3, z3⟩ := hP1.one 3 rfl
    obtain ⟨c4, z4⟩ := hP1.one 4 rfl
    obtain ⟨c5, z5⟩ := hP1.one 5 rfl
    obtain ⟨c6, z6⟩ := hP1.one 6 rfl
    obtain ⟨c7, z7⟩ := hP1.one 7 rfl
    obtain ⟨c8, z8⟩ := hP1.one 8 rfl
    obtain ⟨c9, z9⟩ := hP1.one 9 rfl
    obtain ⟨p0, q0⟩ := hF1.one 0 rfl
    obtain ⟨p1, q1⟩ := hF1.one 1 rfl
    obtain ⟨p2, q2⟩ := hF1.one 2 rfl
    obtain ⟨p3, q3⟩ := hF1.one 3 rfl
    go_upto_region 3 with (fail)
    obtain ⟨w2, e2⟩ : ∃ w2, w2 = w1.setCell ⟨w.heap.size + 1, 0, none⟩ (.int .i64 id) := ⟨_, rfl⟩
    rw [← e2] at hbs ⊢
    clear c0 c1 c2 c3 c4 c5 c6 c7 c8 c9 z0 z1 z2 z3 z4 z5 z6 z7 z8 z9 p0 p1 p2 p3 q0 q1 q2 q3 hP1 hF1 e2
    go_wp2_with fail
    refine (LV.out _).mono ?_
    rintro e w4 ⟨rfl, hb4⟩
    go_wp2
    go_ret
    exact ⟨rfl, hbs.out.trans (hb4.mono hbs.out.size)⟩
  have NW := Lib.hid (fun u => snew_ok id pa ga of sl dr lo hi ra sh u h0)
  obtain ⟨hid, cr, gr, hs⟩ := snW_ok h0
  clear h0
  obtain ⟨c0, z0⟩ := hP0.one 0 rfl
  obtain ⟨c1, z1⟩ := hP0.one 1 rfl
  obtain ⟨c2, z2⟩ := hP0.one 2 rfl
  obtain ⟨c3, z3⟩ := hP0.one 3 rfl
  obtain ⟨c4, z4⟩ := hP0.one 4 rfl
  obtain ⟨c5, z5⟩ := hP0.one 5 rfl
  obtain ⟨c6, z6⟩ := hP0.one 6 rfl
  obtain ⟨c7, z7⟩ := hP0.one 7 rfl
  obtain ⟨c8, z8⟩ := hP0.one 8 rfl
  obtain ⟨c9, z9⟩ := hP0.one 9 rfl
  go_enter Try.func6, Try.ntmps6
  go_upto_region 1 with (fail)
  rw [← eV.out]
  go_wp2_with fail
  refine (NW.out _).mono ?_
  rintro e w1 ⟨b, l, g, y, hb, hl, hg, hy, rfl, S1, hb1⟩
  have hbb1 : Below (w.heap.size + 2) V0 w1 := (Below.refl _ V0).trans (hb1.mono (Nat.le_of_eq hz0.out.symm))
  have nb : w.heap.size + 2 ≤ b := by have := hz0.out; omega
  have nl : w.heap.size + 2 ≤ l := by have := hz0.out; omega
  have ng : w.heap.size + 2 ≤ g := by have := hz0.out; omega
  have ny : w.heap.size + 2 ≤ y := by have := hz0.out; omega
  have hP1 := hP0.below hbb1 (by omega)
  have hF1 := hF0.below hbb1 (by omega)
  obtain ⟨s1, s2, s3, s4⟩ := SF.out _ hbb1
  have hs2 := hbb1.size
  have S2 := Lib.hid (show Sn b l g y ga of sl dr (lkC id pa 0 0 0 0 false 0 0 0) (gaC lo hi ra 0 false 0) (lgC sh 0 false) (w1.setCell ⟨w.heap.size + 1, 0, none⟩ (.int .i64 id)) from by
    have k : Beside (w.heap.size + 1) w1 (w1.setCell ⟨w.heap.size + 1, 0, none⟩ (.int .i64 id)) := .of_only ((Only.refl (w.heap.size + 1) w1).setCell (p := ⟨w.heap.size + 1, 0, none⟩) _)
    exact ⟨S1.o.beside k (by omega), S1.hl.beside k (by omega), S1.hg.beside k (by omega), S1.hy.beside k (by omega), S1.bl, S1.bg, S1.by', S1.lg, S1.ly, S1.gy⟩)
  replace s1 := Lib.hid s1
  replace s2 := Lib.hid s2
  replace s3 := Lib.hid s3
  have s5 := Lib.hid (show w.heap.size + 2 ≤ (w1.setCell ⟨w.heap.size + 1, 0, none⟩ (.int .i64 id)).heap.size from by have := hz0.out; simp; omega)
  clear c0 c1 c2 c3 c4 c5 c6 c7 c8 c9 z0 z1 z2 z3 z4 z5 z6 z7 z8 z9 hb1 hP0 hF0 hb hl hg hy NW S1 SF s4 hbb1 hs2
  obtain ⟨c0, z0⟩ := hP1.one 0 rfl
  obtain ⟨c1, z1⟩ := hP1.one 1 rfl
  obtain ⟨c2, z2⟩ := hP1.one 2 rfl
  obtain ⟨c3, z3⟩ := hP1.one 3 rfl
  obtain ⟨c4, z4⟩ := hP1.one 4 rfl
  obtain ⟨c5, z5⟩ := hP1.one 5 rfl
  obtain ⟨c6, z6⟩ := hP1.one 6 rfl
  obtain ⟨c7, z7⟩ := hP1.one 7 rfl
  obtain ⟨c8, z8⟩ := hP1.one 8 rfl
  obtain ⟨c9, z9⟩ := hP1.one 9 rfl
  obtain ⟨p0, q0⟩ := hF1.one 0 rfl
  obtain ⟨p1, q1⟩ := hF1.one 1 rfl
  obtain ⟨p2, q2⟩ := hF1.one 2 rfl
  obtain ⟨p3, q3⟩ := hF1.one 3 rfl
  go_upto_region 3 with (fail)
  generalize w1.setCell ⟨w.heap.size + 1, 0, none⟩ (.int .i64 id) = V at *
  clear c0 c1 c2 c3 c4 c5 c6 c7 c8 c9 z0 z1 z2 z3 z4 z5 z6 z7 z8 z9 p0 p1 p2 p3 q0 q1 q2 q3 hP1 hF1 eV hz0 hb0'
  have HP := Lib.hid (fun u (h : Below (w.heap.size + 2) V u) => s1.out.below h (by omega))
  have HF := Lib.hid (fun u (h : Below (w.heap.size + 2) V u) => s2.out.below h (by omega))
  have HB := Lib.hid (fun u (h : Below (w.heap.size + 2) V u) => s3.out.trans (h.mono (by omega)))
  by_cases h60 : 60 < Z.length
  · clear RF
    go_wp2_with fail
    refine (LV.out _).mono ?_
    rintro e w4 ⟨rfl, hb4⟩
    go_wp2
    go_ret
    exact ⟨rfl, s3.out.trans (hb4.mono s3.out.size)⟩
  cases hf : frB id fs fv ft
  · rw [hf] at RF
    replace RF := Lib.hid RF
    clear hf
    have hF1 := s2.out
    obtain ⟨c0, z0⟩ := hF1.one 0 rfl
    obtain ⟨c1, z1⟩ := hF1.one 1 rfl
    obtain ⟨c2, z2⟩ := hF1.one 2 rfl
    obtain ⟨c3, z3⟩ := hF1.one 3 rfl
    go_wp2_with fail
    refine (RF.out _).mono ?_
    rintro e w2 ⟨rfl, hb2⟩
    have hbb2 := Lib.hid (s3.out.trans (hb2.mono s3.out.size))
    clear hF1 hb2 c0 c1 c2 c3 z0 z1 z2 z3
    go_wp2_with fail
    refine (LV.out _).mono ?_
    rintro e w4 ⟨rfl, hb4⟩
    go_wp2
    go_ret
    exact ⟨rfl, hbb2.out.trans (hb4.mono hbb2.out.size)⟩
  rw [hf] at RF
  replace RF := Lib.hid RF
  have RP := Lib.hid (fun u => rput_ok id fs fv ft u hf)
  have SG := Lib.hid (fun u S g5 c5 hr hg => sg_first (b := b) (l := l) (g := g) (y := y) u S hid cr gr hs hf g5 c5 hr hg)
  have hF1 := s2.out
  obtain ⟨c0, z0⟩ := hF1.one 0 rfl
  obtain ⟨c1, z1⟩ := hF1.one 1 rfl
  obtain ⟨c2, z2⟩ := hF1.one 2 rfl
  obtain ⟨c3, z3⟩ := hF1.one 3 rfl
  go_wp2_with fail
  refine (RF.out _).mono ?_
  rintro e w2 ⟨rfl, hb2⟩
  have hB2 : Below (w.heap.size + 2) V w2 := (Below.refl _ V).trans (hb2.mono s5.out)
  have S3 := Lib.hid (S2.out.bel hb2)
  clear hF1 hb2 c0 c1 c2 c3 z0 z1 z2 z3 S2 RF hf
  have hF2 := HF.out _ hB2
  obtain ⟨c0, z0⟩ := hF2.one 0 rfl
  obtain ⟨c1, z1⟩ := hF2.one 1 rfl
  obtain ⟨c2, z2⟩ := hF2.one 2 rfl
  obtain ⟨c3, z3⟩ := hF2.one 3 rfl
  clear hF2
  go_wp2_with fail
  refine (RP.out _).mono ?_
  rintro e w3 ⟨g5, cp, rfl, ho5, hq5⟩
  obtain ⟨hr5, hg5, -⟩ := own_bytes ho5 (by decide) rfl
  have S5 := S3.out.bel hq5
  obtain ⟨F1, E1, la, tk, gk, yk, t0, t1, f1a, f1b, ST⟩ := SG.out w3 S5 g5 cp hr5 (by have := S3.out.hl.lt; omega)
  replace ST := Lib.hid ST
  have hB3 := hB2.trans (hq5.mono (by have := hB2.size; have := s5.out; omega))
  clear ho5 hq5 hr5 hg5 S5 S3 hB2 RP SG c0 c1 c2 c3 z0 z1 z2 z3
  go_wp2_with fail
  refine ST.out.mono ?_
  rintro e w4 ⟨rfl, S4, B4⟩
  have hB4 := hB3.trans (B4.below nl ng ny (by have := hB3.size; have := s5.out; omega))
  clear B4 ST hB3
  go_upto_region 6 with (fail)
  obtain ⟨w5, e5, hm5, hA5, hz5⟩ := rdb_box w4 F1 E1
  rw [← e5]
  replace e5 := Lib.hid e5
  obtain ⟨qa, eqa⟩ : ∃ qa, qa = w4.heap.size := ⟨_, rfl⟩
  rw [← eqa] at hA5 ⊢
  have nql : qa ≠ l := by have := S4.hl.lt; omega
  have nqg : qa ≠ g := by have := S4.hg.lt; omega
  have nqy : qa ≠ y := by have := S4.hy.lt; omega
  have hS5 := S4.bel hm5
  have hB5 := hB4.trans (hm5.mono (by have := hB4.size; have := s5.out; omega))
  clear S4 hm5 hz5 hB4 eqa
  go_wp2_with fail
  refine (slast_any w5 hS5).mono ?_
  rintro e w6 ⟨rfl, rfl⟩
  have S6 := Lib.hid hS5.drew
  have hA6 := Lib.hid hA5.drew
  have hB6 := hB5.drew
  clear hS5 hA5 hB5
  generalize w5.drew = w6 at *
  clear e5
  go_wp2_with fail
  go_loopw [12] (fun x u => ∃ (k : Nat) (re tk : Int), k ≤ Z.length ∧ x = .int .i64 (k : Int) ∧ 0 ≤ re ∧ re ≤ (k : Int) ∧ 0 ≤ tk ∧ tk ≤ (k : Int) + 1 ∧ Hid (Sn b l g y ga of sl dr (lkC id pa id fs fv ft true (k : Int) 1 re) (gaC lo hi ra la gk tk) (lgC sh F1 yk) u) ∧ Hid (Held qa [.int .i64 F1, .int .i64 E1] u) ∧ Below (w.heap.size + 2) V u) (fun x _ => Z.length - (intOf x).toNat)
  case atStart => exact ⟨0, 0, tk, Nat.zero_le _, rfl, by omega, by omega, t0, by omega, S6, hA6, hB6⟩
  case round =>
    clear S6 hA6 hB6 t0 t1
    clear tk
    obtain ⟨k, re, tk, hk, rfl, r0, r1, t0, t1, S, hA, hb⟩ := hrel
    by_cases hlt : k < Z.length
    case neg =>
      have hbb := Lib.hid (HB.out _ hb)
      clear hb
      go_wp2_with fail
      refine (LV.out _).mono ?_
      rintro e w4 ⟨rfl, hb4⟩
      go_wp2
      go_ret
      exact ⟨rfl, hbb.out.trans (hb4.mono hbb.out.size)⟩
    have h1 : (k : Int) < (Z.length : Int) := by omega
    have h0 : 0 ≤ (k : Int) := by omega
    have hk100 : k < 100 := by omega
    obtain ⟨bz, oz, ez, -, -⟩ := GG.out _ (HB.out _ hb) k hlt
    subst ez
    have C9 : ∀ u, Below (w.heap.size + 2) V u → u.cell? ⟨bz, oz + k, none⟩ = some (.slice (GA k) (Z.getD k []).length (GC k)) := fun u h => by
      obtain ⟨b', o', e', -, c'⟩ := GG.out u (HB.out _ h) k hlt
      injection e' with e'
      injection e' with e1 e2
      subst e1 e2
      exact c'
    have RW : ∀ u, Below (w.heap.size + 2) V u → RowIs .u8 u (GA k) (Z.getD k []) := fun u h => GR.out u (HB.out _ h) k hlt
    have hBB := GB.out k hlt
    obtain ⟨hRL, hRB⟩ := HW.out k hlt
    generalize Z.getD k [] = R at *
    generalize GA k = A at *
    generalize GC k = C at *
    obtain ⟨n, en⟩ : ∃ n, n = R.length := ⟨_, rfl⟩
    have hnel : 0 < R.length → ∀ x, A = some x → x.block ≠ l := fun hp x hx => by have := hBB hp x hx; omega
    have TK := Lib.hid (fun u (h : Below (w.heap.size + 2) V u) => rtake A C R u (RW u h) hRL hRB)
    generalize wr = v0 at *
    have c9 := C9 _ hb
    rw [← en] at c9 C9 TK
    replace C9 := Lib.hid C9
    clear hBB
    by_cases hx : tkE R = 0 ∧ tkI R = id
    · obtain ⟨x1, x2⟩ := hx
      rw [x1, x2] at TK
      clear hnel hRL hRB x1 x2 RW S hA
      generalize tkS R = i1 at *
      generalize tkV R = i2 at *
      generalize tkT R = i3 at *
      replace en := Lib.hid en
      go_wp2_with fail
      refine (TK.out _ hb).mono ?_
      rintro e w1 ⟨rfl, hb1⟩
      have hB1 := hb.trans (hb1.mono (by have := hb.size; have := s5.out; omega))
      clear hb hb1 TK c9
      go_upto_region 11 with (fail)
      obtain ⟨w2, e2, hm2, hG2, hz2⟩ := f4_alloc w1 id i1 i2 i3
      rw [← e2]
      replace e2 := Lib.hid e2
      have hB2 := hB1.trans (hm2.mono (by have := hB1.size; have := s5.out; omega))
      obtain ⟨qf, eqf⟩ : ∃ qf, qf = w1.heap.size := ⟨_, rfl⟩
      rw [← eqf] at hG2 ⊢
      have hP2 := HP.out _ hB2
      have hbb2 := Lib.hid (HB.out _ hB2)
      clear hm2 hz2 hB1 eqf hB2
      obtain ⟨c0, z0⟩ := hP2.one 0 rfl
      obtain ⟨c1, z1⟩ := hP2.one 1 rfl
      obtain ⟨c2, z2⟩ := hP2.one 2 rfl
      obtain ⟨c3, z3⟩ := hP2.one 3 rfl
      obtain ⟨c4, z4⟩ := hP2.one 4 rfl
      obtain ⟨c5, z5⟩ := hP2.one 5 rfl
      obtain ⟨c6, z6⟩ := hP2.one 6 rfl
      obtain ⟨c7, z7⟩ := hP2.one 7 rfl
      obtain ⟨c8, z8⟩ := hP2.one 8 rfl
      obtain ⟨c9, z9⟩ := hP2.one 9 rfl
      obtain ⟨j0, j1, j2, j3, -, -, -, -, -⟩ := hG2
      go_wp2_with fail
      refine (LV.out _).mono ?_
      rintro e w4 ⟨rfl, hb4⟩
      go_wp2
      go_ret
      exact ⟨rfl, hbb2.out.trans (hb4.mono hbb2.out.size)⟩
    obtain ⟨ee, re', he0, he6, q0, q1, LG⟩ := lk_garb (id := id) (pa := pa) (i := id) (s := fs) (v := fv) (t := ft) (ag := (k : Int)) (ta := 1) (re := re) (kn := true) l R A C ⟨h0, by omega⟩ ⟨r0, by omega⟩ hRL hRB hx hnel
    rw [← en] at LG
    obtain ⟨E, eE⟩ : ∃ E, E = if pa < ((k + 1 : Nat) : Int) then 6 else ee := ⟨_, rfl⟩
    have SS := Lib.hid (fun u (S : Sn b l g y ga of sl dr (lkC id pa id fs fv ft true (k : Int) 1 re) (gaC lo hi ra la gk tk) (lgC sh F1 yk) u) (h : Below (w.heap.size + 2) V u) (h2 : w.heap.size + 2 ≤ u.heap.size) => sg_step (A := A) (n := n) (cap := C) u S he0 hk100 t0 (by omega) (fun u' hu' hh => LG u' hh (RW u' (h.trans (hu'.mono h2)))) eE)
    have tb := gaT_n t0 (by omega)
    generalize gaT tk = tk' at *
    have dE : (E == 0) = false := by rw [eE]; split <;> simp [he0]
    have dS : (E == 6) = decide (pa < (k : Int) + 1) := by
      rw [eE]
      by_cases hp : pa < ((k + 1 : Nat) : Int)
      · rw [if_pos hp]; simp; omega
      · rw [if_neg hp, show (ee == 6) = false by simp [he6], show decide (pa < (k : Int) + 1) = false by simp; omega]
    have hxx : (tkE R == 0) = false ∨ ((tkE R == 0) = true ∧ (tkI R == id) = false) := by
      by_cases q : tkE R = 0
      · exact .inr ⟨by simp [q], by simp; exact fun e => hx ⟨q, e⟩⟩
      · exact .inl (by simp [q])
    clear hnel hRL hRB hx RW LG eE he0 he6
    generalize tkE R = i4 at *
    generalize tkI R = i0 at *
    generalize tkS R = i1 at *
    generalize tkV R = i2 at *
    generalize tkT R = i3 at *
    replace en := Lib.hid en
    replace dS := Lib.hid dS
    go_wp2_with fail
    refine (TK.out _ hb).mono ?_
    rintro e w1 ⟨rfl, hb1⟩
    have hB1 := hb.trans (hb1.mono (by have := hb.size; have := s5.out; omega))
    have S1 := S.out.bel hb1
    have hA1 := hA.out.bel hb1
    clear hb hb1 TK c9 S hA
    go_upto_region 11 with (fail)
    obtain ⟨w2, e2, hm2, hG2, hz2⟩ := f4_alloc w1 i0 i1 i2 i3
    rw [← e2]
    replace e2 := Lib.hid e2
    have hB2 := hB1.trans (hm2.mono (by have := hB1.size; have := s5.out; omega))
    obtain ⟨qf, eqf⟩ : ∃ qf, qf = w1.heap.size := ⟨_, rfl⟩
    rw [← eqf] at hG2 ⊢
    have hP2 := HP.out _ hB2
    have S2 := S1.bel hm2
    have hA2 := Lib.hid (hA1.bel hm2)
    have ST := Lib.hid (SS.out _ S2 hB2 (by have := hB2.size; have := s5.out; omega))
    replace S2 := Lib.hid S2
    have c9 := C9.out _ hB2
    clear hm2 hz2 hB1 eqf S1 hA1 SS
    obtain ⟨j0, j1, j2, j3, -, -, -, -, -⟩ := hG2
    have PP := hP2.c 0 _ rfl
    clear hP2
    have ST2 : ∀ Q : Ending → World → Prop, (∀ w', Sn b l g y ga of sl dr (lkC id pa id fs fv ft true ((k + 1 : Nat) : Int) 1 re') (gaC lo hi ra la gk tk') (lgC sh F1 yk) w' → Bes l g y w2 w' → Q (.returned (.agg #[.int .i64 F1, .int .i64 E])) w') → Calls Try.prog 19 #[.pointer (some ⟨b, 0, none⟩), .slice A n C] w2 Q := fun Q hQ => ST.out.mono (by rintro e w' ⟨rfl, h1, h2⟩; exact hQ w' h1 h2)
    replace ST2 := Lib.hid ST2
    clear ST
    rcases hxx with hx1 | ⟨hx1, hx2⟩
    · go_wp2_with fail
      refine ST2.out _ ?_
      intro w3 S3 B3
      have hB3 := hB2.trans (B3.below nl ng ny (by have := hB2.size; have := s5.out; omega))
      have hA3 := hA2.out.bes B3 nql nqg nqy
      clear B3 ST2 hB2 S2 hA2 j0 j1 j2 j3 PP c9
      go_upto_region 14 with (fail)
      obtain ⟨w4, e4, hm4, hR4, hz4⟩ := rdb_box w3 F1 E
      rw [← e4]
      replace e4 := Lib.hid e4
      obtain ⟨qr, eqr⟩ : ∃ qr, qr = w3.heap.size := ⟨_, rfl⟩
      rw [← eqr] at hR4 ⊢
      have S4 := S3.bel hm4
      have hA4 := hA3.bel hm4
      have hB4 := hB3.trans (hm4.mono (by have := hB3.size; have := s5.out; omega))
      clear S3 hm4 hz4 hB3 hA3 eqr
      go_wp2_with fail
      refine (slast_any w4 S4).mono ?_
      rintro e w5 ⟨rfl, rfl⟩
      have S5 := S4.drew
      have hA5 := hA4.drew
      have hR5 := hR4.drew
      have hB5 := hB4.drew
      clear S4 hA4 hR4 hB4
      generalize w4.drew = w5 at *
      clear e4
      have SL := fun u S => sstale_any (b := b) (l := l) (g := g) (y := y) (ga := ga) (of := of) (sl := sl) (dr := dr) (id := id) (pa := pa) (i := id) (s := fs) (v := fv) (t := ft) (ag := ((k + 1 : Nat) : Int)) (ta := 1) (re := re') (kn := true) (G := gaC lo hi ra la gk tk') (Y := lgC sh F1 yk) u S
      rw [show decide (pa < ((k + 1 : Nat) : Int)) = decide (pa < (k : Int) + 1) by push_cast; rfl] at SL
      replace SL := Lib.hid SL
      replace S5 := Lib.hid S5
      obtain ⟨p0, e0⟩ := hA5.one 0 rfl
      obtain ⟨p1, e1⟩ := hA5.one 1 rfl
      obtain ⟨r0, f0⟩ := hR5.one 0 rfl
      obtain ⟨r1, f1⟩ := hR5.one 1 rfl
      have PB := (HP.out _ hB5).c 1 _ rfl
      have n1 : IntKind.i64.wrap ((k : Int) + 1) = (k : Int) + 1 := by rw [IntKind.wrap_i64]; omega
      go_upto_region 17 with (fail)
      all_goals first | (exfalso; omega) | skip
      cases d1 : decide (pa < (k : Int) + 1)
      · skip
        have SL' := SL.out
        have dS' := dS.out
        rw [d1] at SL' dS'
        replace SL' := Lib.hid SL'
        refine region_moves (fun u => u.cell? ⟨w.heap.size, 1, none⟩ = some (.int .i64 pa) ∧ u.cell? ⟨qr, 1, none⟩ = some (.int .i64 E)) [] [(.free, 0), (.free, 2), (.free, 3), (.free, 4), (.take, 5), (.free, 6), (.step, 1), (.free, 7), (.free, 8), (.free, 9), (.take, 10), (.free, 11), (.free, 12), (.step, 13), (.free, 14), (.free, 15)] _ (by kernel_rfl) (by kernel_rfl) (by kernel_rfl) (by kernel_rfl) (by decide) rfl (fun _ _ _ _ _ h => h) ?_
        simp only [List.filterMap_cons, List.filterMap_nil, List.getElem?_toArray, List.getElem?_cons_zero, List.getElem?_cons_succ, Option.map_some]
        iterate 4
          first
            | (refine mv_free ?_ (Or.inl ⟨by rfl, ?_⟩) (⟨PB, r1⟩) ?_
               rotate_left 1
               · intro u
                 go_simp
                 try simp only [d1]
                 try simp only [d2]
                 try simp only [d3]
                 try with_reducible rfl
               simp only [Act.put, List.setIfInBounds_toArray, List.set_cons_zero, List.set_cons_succ])
            | (refine mv_free _ (Or.inr ⟨by rfl, rfl⟩) (⟨PB, r1⟩) ?_
               simp only [Act.put, List.setIfInBounds_toArray, List.set_cons_zero, List.set_cons_succ])
        iterate 1
          first
            | (refine mv_take ?_ (Or.inl ⟨by rfl, ?_⟩) (⟨PB, r1⟩) ?_
               rotate_left 1
               · intro u hu
                 (try dsimp only at hu)
                 go_simp
                 try with_reducible rfl
               simp only [Act.put, List.setIfInBounds_toArray, List.set_cons_zero, List.set_cons_succ])
            | (refine mv_take _ (Or.inr ⟨by rfl, rfl⟩) (⟨PB, r1⟩) ?_
               simp only [Act.put, List.setIfInBounds_toArray, List.set_cons_zero, List.set_cons_succ])
        iterate 1
          first
            | (refine mv_free ?_ (Or.inl ⟨by rfl, ?_⟩) (⟨PB, r1⟩) ?_
               rotate_left 1
               · intro u
                 go_simp
                 try simp only [d1]
                 try simp only [d2]
                 try simp only [d3]
                 try with_reducible rfl
               simp only [Act.put, List.setIfInBounds_toArray, List.set_cons_zero, List.set_cons_succ])
            | (refine mv_free _ (Or.inr ⟨by rfl, rfl⟩) (⟨PB, r1⟩) ?_
               simp only [Act.put, List.setIfInBounds_toArray, List.set_cons_zero, List.set_cons_succ])
        refine mv_step (fun K hK => ?_)
        go_simp
        refine (SL'.out _ S5.out.drew).mono ?_
        rintro e w6 ⟨rfl, rfl⟩
        go_wp2_with fail
        refine hK.out _ _ _ (fun u hu => hu) (⟨PB, r1⟩) ?_
        clear hK K
        iterate 3
          first
            | (refine mv_free ?_ (Or.inl ⟨by rfl, ?_⟩) (⟨PB, r1⟩) ?_
               rotate_left 1
               · intro u
                 go_simp
                 try simp only [d1]
                 try simp only [d2]
                 try simp only [d3]
                 try with_reducible rfl
               simp only [Act.put, List.setIfInBounds_toArray, List.set_cons_zero, List.set_cons_succ])
            | (refine mv_free _ (Or.inr ⟨by rfl, rfl⟩) (⟨PB, r1⟩) ?_
               simp only [Act.put, List.setIfInBounds_toArray, List.set_cons_zero, List.set_cons_succ])
        iterate 1
          first
            | (refine mv_take ?_ (Or.inl ⟨by rfl, ?_⟩) (⟨PB, r1⟩) ?_
               rotate_left 1
               · intro u hu
                 (try dsimp only at hu)
                 go_simp
                 try with_reducible rfl
               simp only [Act.put, List.setIfInBounds_toArray, List.set_cons_zero, List.set_cons_succ])
            | (refine mv_take _ (Or.inr ⟨by rfl, rfl⟩) (⟨PB, r1⟩) ?_
               simp only [Act.put, List.setIfInBounds_toArray, List.set_cons_zero, List.set_cons_succ])
        iterate 2
          first
            | (refine mv_free ?_ (Or.inl ⟨by rfl, ?_⟩) (⟨PB, r1⟩) ?_
               rotate_left 1
               · intro u
                 go_simp
                 try simp only [d1]
                 try simp only [d2]
                 try simp only [d3]
                 try with_reducible rfl
               simp only [Act.put, List.setIfInBounds_toArray, List.set_cons_zero, List.set_cons_succ])
            | (refine mv_free _ (Or.inr ⟨by rfl, rfl⟩) (⟨PB, r1⟩) ?_
               simp only [Act.put, List.setIfInBounds_toArray, List.set_cons_zero, List.set_cons_succ])
        refine mv_step (fun K hK => ?_)
        go_simp
        refine (SL'.out _ S5.out.drew.drew).mono ?_
        rintro e w6 ⟨rfl, rfl⟩
        go_wp2_with fail
        refine hK.out _ _ _ (fun u hu => hu) (⟨PB, r1⟩) ?_
        clear hK K
        iterate 2
          first
            | (refine mv_free ?_ (Or.inl ⟨by rfl, ?_⟩) (⟨PB, r1⟩) ?_
               rotate_left 1
               · intro u
                 go_simp
                 try simp only [d1]
                 try simp only [d2]
                 try simp only [d3]
                 try with_reducible rfl
               simp only [Act.put, List.setIfInBounds_toArray, List.set_cons_zero, List.set_cons_succ])
            | (refine mv_free _ (Or.inr ⟨by rfl, rfl⟩) (⟨PB, r1⟩) ?_
               simp only [Act.put, List.setIfInBounds_toArray, List.set_cons_zero, List.set_cons_succ])
        refine mv_done ?_
        have S6 := Lib.hid S5.out.drew.drew.drew
        have hA6 := Lib.hid hA5.drew.drew.drew
        have hB6 := hB5.drew.drew.drew
        go_wp2
        go_roundw
        case rel => exact ⟨k + 1, re', tk', by omega, by go_num, by omega, by push_cast; omega, by omega, by push_cast; omega, S6, hA6, hB6⟩
        case measure => simp [intOf]; omega
      · skip
        have SL' := SL.out
        have dS' := dS.out
        rw [d1] at SL' dS'
        replace SL' := Lib.hid SL'
        refine region_moves (fun u => u.cell? ⟨w.heap.size, 1, none⟩ = some (.int .i64 pa) ∧ u.cell? ⟨qr, 1, none⟩ = some (.int .i64 E)) [] [(.free, 0), (.free, 2), (.free, 3), (.free, 4), (.take, 5), (.free, 6), (.step, 1), (.free, 7), (.free, 8), (.free, 9), (.take, 10), (.free, 11), (.free, 12), (.step, 13), (.free, 14), (.free, 15)] _ (by kernel_rfl) (by kernel_rfl) (by kernel_rfl) (by kernel_rfl) (by decide) rfl (fun _ _ _ _ _ h => h) ?_
        simp only [List.filterMap_cons, List.filterMap_nil, List.getElem?_toArray, List.getElem?_cons_zero, List.getElem?_cons_succ, Option.map_some]
        iterate 4
          first
            | (refine mv_free ?_ (Or.inl ⟨by rfl, ?_⟩) (⟨PB, r1⟩) ?_
               rotate_left 1
               · intro u
                 go_simp
                 try simp only [d1]
                 try simp only [d2]
                 try simp only [d3]
                 try with_reducible rfl
               simp only [Act.put, List.setIfInBounds_toArray, List.set_cons_zero, List.set_cons_succ])
            | (refine mv_free _ (Or.inr ⟨by rfl, rfl⟩) (⟨PB, r1⟩) ?_
               simp only [Act.put, List.setIfInBounds_toArray, List.set_cons_zero, List.set_cons_succ])
        iterate 1
          first
            | (refine mv_take ?_ (Or.inl ⟨by rfl, ?_⟩) (⟨PB, r1⟩) ?_
               rotate_left 1
               · intro u hu
                 (try dsimp only at hu)
                 go_simp
                 try with_reducible rfl
               simp only [Act.put, List.setIfInBounds_toArray, List.set_cons_zero, List.set_cons_succ])
            | (refine mv_take _ (Or.inr ⟨by rfl, rfl⟩) (⟨PB, r1⟩) ?_
               simp only [Act.put, List.setIfInBounds_toArray, List.set_cons_zero, List.set_cons_succ])
        iterate 1
          first
            | (refine mv_free ?_ (Or.inl ⟨by rfl, ?_⟩) (⟨PB, r1⟩) ?_
               rotate_left 1
               · intro u
                 go_simp
                 try simp only [d1]
                 try simp only [d2]
                 try simp only [d3]
                 try with_reducible rfl
               simp only [Act.put, List.setIfInBounds_toArray, List.set_cons_zero, List.set_cons_succ])
            | (refine mv_free _ (Or.inr ⟨by rfl, rfl⟩) (⟨PB, r1⟩) ?_
               simp only [Act.put, List.setIfInBounds_toArray, List.set_cons_zero, List.set_cons_succ])
        refine mv_step (fun K hK => ?_)
        go_simp
        refine (SL'.out _ S5.out.drew).mono ?_
        rintro e w6 ⟨rfl, rfl⟩
        go_wp2_with fail
        refine hK.out _ _ _ (fun u hu => hu) (⟨PB, r1⟩) ?_
        clear hK K
        iterate 3
          first
            | (refine mv_free ?_ (Or.inl ⟨by rfl, ?_⟩) (⟨PB, r1⟩) ?_
               rotate_left 1
               · intro u
                 go_simp
                 try simp only [d1]
                 try simp only [d2]
                 try simp only [d3]
                 try with_reducible rfl
               simp only [Act.put, List.setIfInBounds_toArray, List.set_cons_zero, List.set_cons_succ])
            | (refine mv_free _ (Or.inr ⟨by rfl, rfl⟩) (⟨PB, r1⟩) ?_
               simp only [Act.put, List.setIfInBounds_toArray, List.set_cons_zero, List.set_cons_succ])
        iterate 1
          first
            | (refine mv_take ?_ (Or.inl ⟨by rfl, ?_⟩) (⟨PB, r1⟩) ?_
               rotate_left 1
               · intro u hu
                 (try dsimp only at hu)
                 go_simp
                 try with_reducible rfl
               simp only [Act.put, List.setIfInBounds_toArray, List.set_cons_zero, List.set_cons_succ])
            | (refine mv_take _ (Or.inr ⟨by rfl, rfl⟩) (⟨PB, r1⟩) ?_
               simp only [Act.put, List.setIfInBounds_toArray, List.set_cons_zero, List.set_cons_succ])
        iterate 2
          first
            | (refine mv_free ?_ (Or.inl ⟨by rfl, ?_⟩) (⟨PB, r1⟩) ?_
               rotate_left 1
               · intro u
                 go_simp
                 try simp only [d1]
                 try simp only [d2]
                 try simp only [d3]
                 try with_reducible rfl
               simp only [Act.put, List.setIfInBounds_toArray, List.set_cons_zero, List.set_cons_succ])
            | (refine mv_free _ (Or.inr ⟨by rfl, rfl⟩) (⟨PB, r1⟩) ?_
               simp only [Act.put, List.setIfInBounds_toArray, List.set_cons_zero, List.set_cons_succ])
        refine mv_step (fun K hK => ?_)
        go_simp
        refine (SL'.out _ S5.out.drew.drew).mono ?_
        rintro e w6 ⟨rfl, rfl⟩
        go_wp2_with fail
        refine hK.out _ _ _ (fun u hu => hu) (⟨PB, r1⟩) ?_
        clear hK K
        iterate 2
          first
            | (refine mv_free ?_ (Or.inl ⟨by rfl, ?_⟩) (⟨PB, r1⟩) ?_
               rotate_left 1
               · intro u
                 go_simp
                 try simp only [d1]
                 try simp only [d2]
                 try simp only [d3]
                 try with_reducible rfl
               simp only [Act.put, List.setIfInBounds_toArray, List.set_cons_zero, List.set_cons_succ])
            | (refine mv_free _ (Or.inr ⟨by rfl, rfl⟩) (⟨PB, r1⟩) ?_
               simp only [Act.put, List.setIfInBounds_toArray, List.set_cons_zero, List.set_cons_succ])
        refine mv_done ?_
        have S6 := Lib.hid S5.out.drew.drew.drew
        have hA6 := Lib.hid hA5.drew.drew.drew
        have hB6 := hB5.drew.drew.drew
        go_wp2
        go_roundw
        case rel => exact ⟨k + 1, re', tk', by omega, by go_num, by omega, by push_cast; omega, by omega, by push_cast; omega, S6, hA6, hB6⟩
        case measure => simp [intOf]; omega
    · go_wp2_with fail
      refine ST2.out _ ?_
      intro w3 S3 B3
      have hB3 := hB2.trans (B3.below nl ng ny (by have := hB2.size; have := s5.out; omega))
      have hA3 := hA2.out.bes B3 nql nqg nqy
      clear B3 ST2 hB2 S2 hA2 j0 j1 j2 j3 PP c9
      go_upto_region 14 with (fail)
      obtain ⟨w4, e4, hm4, hR4, hz4⟩ := rdb_box w3 F1 E
      rw [← e4]
      replace e4 := Lib.hid e4
      obtain ⟨qr, eqr⟩ : ∃ qr, qr = w3.heap.size := ⟨_, rfl⟩
      rw [← eqr] at hR4 ⊢
      have S4 := S3.bel hm4
      have hA4 := hA3.bel hm4
      have hB4 := hB3.trans (hm4.mono (by have := hB3.size; have := s5.out; omega))
      clear S3 hm4 hz4 hB3 hA3 eqr
      go_wp2_with fail
      refine (slast_any w4 S4).mono ?_
      rintro e w5 ⟨rfl, rfl⟩
      have S5 := S4.drew
      have hA5 := hA4.drew
      have hR5 := hR4.drew
      have hB5 := hB4.drew
      clear S4 hA4 hR4 hB4
      generalize w4.drew = w5 at *
      clear e4
      have SL := fun u S => sstale_any (b := b) (l := l) (g := g) (y := y) (ga := ga) (of := of) (sl := sl) (dr := dr) (id := id) (pa := pa) (i := id) (s := fs) (v := fv) (t := ft) (ag := ((k + 1 : Nat) : Int)) (ta := 1) (re := re') (kn := true) (G := gaC lo hi ra la gk tk') (Y := lgC sh F1 yk) u S
      rw [show decide (pa < ((k + 1 : Nat) : Int)) = decide (pa < (k : Int) + 1) by push_cast; rfl] at SL
      replace SL := Lib.hid SL
      replace S5 := Lib.hid S5
      obtain ⟨p0, e0⟩ := hA5.one 0 rfl
      obtain ⟨p1, e1⟩ := hA5.one 1 rfl
      obtain ⟨r0, f0⟩ := hR5.one 0 rfl
      obtain ⟨r1, f1⟩ := hR5.one 1 rfl
      have PB := (HP.out _ hB5).c 1 _ rfl
      have n1 : IntKind.i64.wrap ((k : Int) + 1) = (k : Int) + 1 := by rw [IntKind.wrap_i64]; omega
      go_upto_region 17 with (fail)
      all_goals first | (exfalso; omega) | skip
      cases d1 : decide (pa < (k : Int) + 1)
      · skip
        have SL' := SL.out
        have dS' := dS.out
        rw [d1] at SL' dS'
        replace SL' := Lib.hid SL'
        refine region_moves (fun u => u.cell? ⟨w.heap.size, 1, none⟩ = some (.int .i64 pa) ∧ u.cell? ⟨qr, 1, none⟩ = some (.int .i64 E)) [] [(.free, 0), (.free, 2), (.free, 3), (.free, 4), (.take, 5), (.free, 6), (.step, 1), (.free, 7), (.free, 8), (.free, 9), (.take, 10), (.free, 11), (.free, 12), (.step, 13), (.free, 14), (.free, 15)] _ (by kernel_rfl) (by kernel_rfl) (by kernel_rfl) (by kernel_rfl) (by decide) rfl (fun _ _ _ _ _ h => h) ?_
        simp only [List.filterMap_cons, List.filterMap_nil, List.getElem?_toArray, List.getElem?_cons_zero, List.getElem?_cons_succ, Option.map_some]
        iterate 4
          first
            | (refine mv_free ?_ (Or.inl ⟨by rfl, ?_⟩) (⟨PB, r1⟩) ?_
               rotate_left 1
               · intro u
                 go_simp
                 try simp only [d1]
                 try simp only [d2]
                 try simp only [d3]
                 try with_reducible rfl
               simp only [Act.put, List.setIfInBounds_toArray, List.set_cons_zero, List.set_cons_succ])
            | (refine mv_free _ (Or.inr ⟨by rfl, rfl⟩) (⟨PB, r1⟩) ?_
               simp only [Act.put, List.setIfInBounds_toArray, List.set_cons_zero, List.set_cons_succ])
        iterate 1
          first
            | (refine mv_take ?_ (Or.inl ⟨by rfl, ?_⟩) (⟨PB, r1⟩) ?_
               rotate_left 1
               · intro u hu
                 (try dsimp only at hu)
                 go_simp
                 try with_reducible rfl
               simp only [Act.put, List.setIfInBounds_toArray, List.set_cons_zero, List.set_cons_succ])
            | (refine mv_take _ (Or.inr ⟨by rfl, rfl⟩) (⟨PB, r1⟩) ?_
               simp only [Act.put, List.setIfInBounds_toArray, List.set_cons_zero, List.set_cons_succ])
        iterate 1
          first
            | (refine mv_free ?_ (Or.inl ⟨by rfl, ?_⟩) (⟨PB, r1⟩) ?_
               rotate_left 1
               · intro u
                 go_simp
                 try simp only [d1]
                 try simp only [d2]
                 try simp only [d3]
                 try with_reducible rfl
               simp only [Act.put, List.setIfInBounds_toArray, List.set_cons_zero, List.set_cons_succ])
            | (refine mv_free _ (Or.inr ⟨by rfl, rfl⟩) (⟨PB, r1⟩) ?_
               simp only [Act.put, List.setIfInBounds_toArray, List.set_cons_zero, List.set_cons_succ])
        refine mv_step (fun K hK => ?_)
        go_simp
        refine (SL'.out _ S5.out.drew).mono ?_
        rintro e w6 ⟨rfl, rfl⟩
        go_wp2_with fail
        refine hK.out _ _ _ (fun u hu => hu) (⟨PB, r1⟩) ?_
        clear hK K
        iterate 3
          first
            | (refine mv_free ?_ (Or.inl ⟨by rfl, ?_⟩) (⟨PB, r1⟩) ?_
               rotate_left 1
               · intro u
                 go_simp
                 try simp only [d1]
                 try simp only [d2]
                 try simp only [d3]
                 try with_reducible rfl
               simp only [Act.put, List.setIfInBounds_toArray, List.set_cons_zero, List.set_cons_succ])
            | (refine mv_free _ (Or.inr ⟨by rfl, rfl⟩) (⟨PB, r1⟩) ?_
               simp only [Act.put, List.setIfInBounds_toArray, List.set_cons_zero, List.set_cons_succ])
        iterate 1
          first
            | (refine mv_take ?_ (Or.inl ⟨by rfl, ?_⟩) (⟨PB, r1⟩) ?_
               rotate_left 1
               · intro u hu
                 (try dsimp only at hu)
                 go_simp
                 try with_reducible rfl
               simp only [Act.put, List.setIfInBounds_toArray, List.set_cons_zero, List.set_cons_succ])
            | (refine mv_take _ (Or.inr ⟨by rfl, rfl⟩) (⟨PB, r1⟩) ?_
               simp only [Act.put, List.setIfInBounds_toArray, List.set_cons_zero, List.set_cons_succ])
        iterate 2
          first
            | (refine mv_free ?_ (Or.inl ⟨by rfl, ?_⟩) (⟨PB, r1⟩) ?_
               rotate_left 1
               · intro u
                 go_simp
                 try simp only [d1]
                 try simp only [d2]
                 try simp only [d3]
                 try with_reducible rfl
               simp only [Act.put, List.setIfInBounds_toArray, List.set_cons_zero, List.set_cons_succ])
            | (refine mv_free _ (Or.inr ⟨by rfl, rfl⟩) (⟨PB, r1⟩) ?_
               simp only [Act.put, List.setIfInBounds_toArray, List.set_cons_zero, List.set_cons_succ])
        refine mv_step (fun K hK => ?_)
        go_simp
        refine (SL'.out _ S5.out.drew.drew).mono ?_
        rintro e w6 ⟨rfl, rfl⟩
        go_wp2_with fail
        refine hK.out _ _ _ (fun u hu => hu) (⟨PB, r1⟩) ?_
        clear hK K
        iterate 2
          first
            | (refine mv_free ?_ (Or.inl ⟨by rfl, ?_⟩) (⟨PB, r1⟩) ?_
               rotate_left 1
               · intro u
                 go_simp
                 try simp only [d1]
                 try simp only [d2]
                 try simp only [d3]
                 try with_reducible rfl
               simp only [Act.put, List.setIfInBounds_toArray, List.set_cons_zero, List.set_cons_succ])
            | (refine mv_free _ (Or.inr ⟨by rfl, rfl⟩) (⟨PB, r1⟩) ?_
               simp only [Act.put, List.setIfInBounds_toArray, List.set_cons_zero, List.set_cons_succ])
        refine mv_done ?_
        have S6 := Lib.hid S5.out.drew.drew.drew
        have hA6 := Lib.hid hA5.drew.drew.drew
        have hB6 := hB5.drew.drew.drew
        go_wp2
        go_roundw
        case rel => exact ⟨k + 1, re', tk', by omega, by go_num, by omega, by push_cast; omega, by omega, by push_cast; omega, S6, hA6, hB6⟩
        case measure => simp [intOf]; omega
      · skip
        have SL' := SL.out
        have dS' := dS.out
        rw [d1] at SL' dS'
        replace SL' := Lib.hid SL'
        refine region_moves (fun u => u.cell? ⟨w.heap.size, 1, none⟩ = some (.int .i64 pa) ∧ u.cell? ⟨qr, 1, none⟩ = some (.int .i64 E)) [] [(.free, 0), (.free, 2), (.free, 3), (.free, 4), (.take, 5), (.free, 6), (.step, 1), (.free, 7), (.free, 8), (.free, 9), (.take, 10), (.free, 11), (.free, 12), (.step, 13), (.free, 14), (.free, 15)] _ (by kernel_rfl) (by kernel_rfl) (by kernel_rfl) (by kernel_rfl) (by decide) rfl (fun _ _ _ _ _ h => h) ?_
        simp only [List.filterMap_cons, List.filterMap_nil, List.getElem?_toArray, List.getElem?_cons_zero, List.getElem?_cons_succ, Option.map_some]
        iterate 4
          first
            | (refine mv_free ?_ (Or.inl ⟨by rfl, ?_⟩) (⟨PB, r1⟩) ?_
               rotate_left 1
               · intro u
                 go_simp
                 try simp only [d1]
                 try simp only [d2]
                 try simp only [d3]
                 try with_reducible rfl
               simp only [Act.put, List.setIfInBounds_toArray, List.set_cons_zero, List.set_cons_succ])
            | (refine mv_free _ (Or.inr ⟨by rfl, rfl⟩) (⟨PB, r1⟩) ?_
               simp only [Act.put, List.setIfInBounds_toArray, List.set_cons_zero, List.set_cons_succ])
        iterate 1
          first
            | (refine mv_take ?_ (Or.inl ⟨by rfl, ?_⟩) (⟨PB, r1⟩) ?_
               rotate_left 1
               · intro u hu
                 (try dsimp only at hu)
                 go_simp
                 try with_reducible rfl
               simp only [Act.put, List.setIfInBounds_toArray, List.set_cons_zero, List.set_cons_succ])
            | (refine mv_take _ (Or.inr ⟨by rfl, rfl⟩) (⟨PB, r1⟩) ?_
               simp only [Act.put, List.setIfInBounds_toArray, List.set_cons_zero, List.set_cons_succ])
        iterate 1
          first
            | (refine mv_free ?_ (Or.inl ⟨by rfl, ?_⟩) (⟨PB, r1⟩) ?_
               rotate_left 1
               · intro u
                 go_simp
                 try simp only [d1]
                 try simp only [d2]
                 try simp only [d3]
                 try with_reducible rfl
               simp only [Act.put, List.setIfInBounds_toArray, List.set_cons_zero, List.set_cons_succ])
            | (refine mv_free _ (Or.inr ⟨by rfl, rfl⟩) (⟨PB, r1⟩) ?_
               simp only [Act.put, List.setIfInBounds_toArray, List.set_cons_zero, List.set_cons_succ])
        refine mv_step (fun K hK => ?_)
        go_simp
        refine (SL'.out _ S5.out.drew).mono ?_
        rintro e w6 ⟨rfl, rfl⟩
        go_wp2_with fail
        refine hK.out _ _ _ (fun u hu => hu) (⟨PB, r1⟩) ?_
        clear hK K
        iterate 3
          first
            | (refine mv_free ?_ (Or.inl ⟨by rfl, ?_⟩) (⟨PB, r1⟩) ?_
               rotate_left 1
               · intro u
                 go_simp
                 try simp only [d1]
                 try simp only [d2]
                 try simp only [d3]
                 try with_reducible rfl
               simp only [Act.put, List.setIfInBounds_toArray, List.set_cons_zero, List.set_cons_succ])
            | (refine mv_free _ (Or.inr ⟨by rfl, rfl⟩) (⟨PB, r1⟩) ?_
               simp only [Act.put, List.setIfInBounds_toArray, List.set_cons_zero, List.set_cons_succ])
        iterate 1
          first
            | (refine mv_take ?_ (Or.inl ⟨by rfl, ?_⟩) (⟨PB, r1⟩) ?_
               rotate_left 1
               · intro u hu
                 (try dsimp only at hu)
                 go_simp
                 try with_reducible rfl
               simp only [Act.put, List.setIfInBounds_toArray, List.set_cons_zero, List.set_cons_succ])
            | (refine mv_take _ (Or.inr ⟨by rfl, rfl⟩) (⟨PB, r1⟩) ?_
               simp only [Act.put, List.setIfInBounds_toArray, List.set_cons_zero, List.set_cons_succ])
        iterate 2
          first
            | (refine mv_free ?_ (Or.inl ⟨by rfl, ?_⟩) (⟨PB, r1⟩) ?_
               rotate_left 1
               · intro u
                 go_simp
                 try simp only [d1]
                 try simp only [d2]
                 try simp only [d3]
                 try with_reducible rfl
               simp only [Act.put, List.setIfInBounds_toArray, List.set_cons_zero, List.set_cons_succ])
            | (refine mv_free _ (Or.inr ⟨by rfl, rfl⟩) (⟨PB, r1⟩) ?_
               simp only [Act.put, List.setIfInBounds_toArray, List.set_cons_zero, List.set_cons_succ])
        refine mv_step (fun K hK => ?_)
        go_simp
        refine (SL'.out _ S5.out.drew.drew).mono ?_
        rintro e w6 ⟨rfl, rfl⟩
        go_wp2_with fail
        refine hK.out _ _ _ (fun u hu => hu) (⟨PB, r1⟩) ?_
        clear hK K
        iterate 2
          first
            | (refine mv_free ?_ (Or.inl ⟨by rfl, ?_⟩) (⟨PB, r1⟩) ?_
               rotate_left 1
               · intro u
                 go_simp
                 try simp only [d1]
                 try simp only [d2]
                 try simp only [d3]
                 try with_reducible rfl
               simp only [Act.put, List.setIfInBounds_toArray, List.set_cons_zero, List.set_cons_succ])
            | (refine mv_free _ (Or.inr ⟨by rfl, rfl⟩) (⟨PB, r1⟩) ?_
               simp only [Act.put, List.setIfInBounds_toArray, List.set_cons_zero, List.set_cons_succ])
        refine mv_done ?_
        have S6 := Lib.hid S5.out.drew.drew.drew
        have hA6 := Lib.hid hA5.drew.drew.drew
        have hB6 := hB5.drew.drew.drew
        go_wp2
        go_roundw
        case rel => exact ⟨k + 1, re', tk', by omega, by go_num, by omega, by push_cast; omega, by omega, by push_cast; omega, S6, hA6, hB6⟩
        case measure => simp [intOf]; omega
end Go.Proofs.Ytbbmkmkalghaeaa
