/- Altitudes over a setting; the laws BaroCorrects, BaroRises, BaroSets; walked. -/
import Derived.Test.YtlgiefdhjhijaaaAir11
import Derived.Test.YtlgiefdhjhijaaaBaro1
import Derived.Test.YtlgiefdhjhijaaaClip09
import Derived.Deep.Cut
namespace Go.Proofs.Ytlgiefdhjhijaaa
open Go.ChangeShapes Go.WideShapes Go.ChangeAt Go.RowKit
set_option linter.unusedVariables false
set_option linter.unusedSimpArgs false
set_option maxHeartbeats 4000000 in
theorem search_inv (I : World → Prop) (g : Nat) (cb : Array Value) (n r : Nat) (p : Nat → Bool) (w : World) (eg : ∀ args w, (callFunc g args).run Try.prog w = .ok (.enter g args) w) (hn : n ≤ 1099511627775) (hr : r ≤ n)
    (h1 : ∀ t, t < r → p t = false) (h2 : ∀ t, r ≤ t → t < n → p t = true)
    (hI : I w) (hf : ∀ (u : World) (i : Nat), i < n → I u → Calls Try.prog g (#[.int .i64 i] ++ cb) u fun e u' => e = .returned (.bool (p i)) ∧ I u') :
    Calls Try.prog 43 #[.int .i64 n, .func (.func g) #[] cb] w fun e w' => e = .returned (.int .i64 r) ∧ I w' := by
  have HF := Lib.hid hf
  have H1 := Lib.hid h1
  have H2 := Lib.hid h2
  clear hf h1 h2
  go_enter Try.func43, Try.ntmps43
  go_wp2
  go_loopw [5, 6] (fun a b v => ∃ (lo hi : Nat), lo ≤ r ∧ r ≤ hi ∧ hi ≤ n ∧ a = .int .i64 lo ∧ b = .int .i64 hi ∧ I v) (fun a b _ => (intOf b - intOf a).toNat)
  case atStart => exact ⟨0, n, by omega, hr, Nat.le_refl _, rfl, rfl, hI⟩
  case round =>
    obtain ⟨lo, hi, hlo, hhi, hin, rfl, rfl, hb⟩ := hrel
    by_cases hlt : lo < hi
    · have hc := HF.out
      replace hc := hc wr ((lo + hi) / 2) (by omega) hb
      rw [show (((lo + hi) / 2 : Nat) : Int) = ((lo : Int) + (hi : Int)) / 2 by omega] at hc
      cases hp : p ((lo + hi) / 2) <;> rw [hp] at hc
      · have hlo' : (lo + hi) / 2 < r := by
          by_cases h : (lo + hi) / 2 < r
          · exact h
          · have := H2.out ((lo + hi) / 2) (by omega) (by omega)
            rw [hp] at this; cases this
        clear hp
        go_wp2_with (go_at_fn g; refine hc.mono ?_; rintro e w' ⟨rfl, hb1⟩)
        go_roundw
        case rel => exact ⟨(lo + hi) / 2 + 1, hi, by omega, hhi, hin, by rw [show ((lo : Int) + (hi : Int)) / 2 + 1 = (((lo + hi) / 2 + 1 : Nat) : Int) by omega], rfl, hb1⟩
        case measure => simp [intOf]; omega
      · have hhi' : r ≤ (lo + hi) / 2 := by
          by_cases h : r ≤ (lo + hi) / 2
          · exact h
          · have := H1.out ((lo + hi) / 2) (by omega)
            rw [hp] at this; cases this
        clear hp
        go_wp2_with (go_at_fn g; refine hc.mono ?_; rintro e w' ⟨rfl, hb1⟩)
        go_roundw
        case rel => exact ⟨lo, (lo + hi) / 2, hlo, hhi', by omega, rfl, by rw [show ((lo : Int) + (hi : Int)) / 2 = (((lo + hi) / 2 : Nat) : Int) by omega], hb1⟩
        case measure => simp [intOf]; omega
    · obtain rfl : lo = r := by omega
      go_wp2
      go_ret
      exact ⟨rfl, hb⟩

def btC (s : Int) : Int := c09 s 7500 10800
theorem btC_bd (s : Int) : 7500 ≤ btC s ∧ btC s ≤ 10800 := by unfold btC c09; omega
theorem btC_mono {a b : Int} (h : a ≤ b) : btC a ≤ btC b := by unfold btC c09; omega
theorem btC_id {s : Int} (h : 7500 ≤ s) (k : s ≤ 10800) : btC s = s := by unfold btC c09; omega
noncomputable def coV (p s : Int) : Int := heV p - heV (640 * btC s)
theorem coV_bd (p s : Int) : -2100000 ≤ coV p s ∧ coV p s ≤ 2100000 := by
  have := heV_bd p
  have := heV_bd (640 * btC s)
  unfold coV
  omega
theorem coV_up (p : Int) {a b : Int} (h : a ≤ b) : coV p a ≤ coV p b := by
  have := btC_mono h
  have := heV_fall (p := 640 * btC a) (q := 640 * btC b) (by omega)
  unfold coV
  omega
theorem coV_dn (s : Int) {a b : Int} (h : a ≤ b) : coV b s ≤ coV a s := by
  have := heV_fall h
  unfold coV
  omega
set_option maxRecDepth 100000 in
set_option maxHeartbeats 8000000 in
theorem acorr (p s : Int) (w u : World) (m0 : AirW w u) : Calls Try.prog 24 #[.pointer (some ⟨w.heap.size, 0, none⟩), .int .i64 p, .int .i64 s] u fun e w' => e = .returned (.int .i64 (coV p s)) ∧ AirW w w' ∧ Beside w.heap.size u w' := by
  have b := btC_bd s
  have h1 := heV_bd p
  have h2 := heV_bd (640 * btC s)
  obtain ⟨m, em⟩ : ∃ m, m = (if s < 7500 then 7500 else s) := ⟨_, rfl⟩
  obtain ⟨c, ec⟩ : ∃ c, c = btC s := ⟨_, rfl⟩
  have n1 : (if s < 7500 then (7500 : Int) else s) = m := em.symm
  have n2 : (if 10800 < m then (10800 : Int) else m) = c := by rw [ec, em]; unfold btC c09; omega
  have H1 := Lib.hid (fun u m => aheightW p w u m)
  have H2 := fun u m => aheightW (640 * btC s) w u m
  unfold coV
  rw [← ec] at b h2 H2 ⊢
  have n3 : IntKind.i64.wrap (640 * c) = 640 * c := by rw [IntKind.wrap_i64]; omega
  have n4 : IntKind.i64.wrap (heV p - heV (640 * c)) = heV p - heV (640 * c) := by rw [IntKind.wrap_i64]; omega
  generalize heV p = X at *
  generalize heV (640 * c) = Y at *
  replace H2 := Lib.hid H2
  replace em := Lib.hid em
  replace ec := Lib.hid ec
  replace m0 := Lib.hid m0
  clear b h1 h2
  go_enter Try.func24, Try.ntmps24
  go_wp2_with fail
  refine (H1.out _ m0.out).mono ?_
  rintro e w1 ⟨rfl, m1, bs1⟩
  replace m1 := Lib.hid m1
  replace bs1 := Lib.hid bs1
  go_wp2_with fail
  refine (H2.out _ m1.out).mono ?_
  rintro e w2 ⟨rfl, m2, bs2⟩
  replace m2 := Lib.hid m2
  replace bs2 := Lib.hid (bs1.out.trans bs2)
  go_wp2
  go_ret
  exact ⟨rfl, m2.out, bs2.out⟩
set_option maxRecDepth 100000 in
set_option maxHeartbeats 8000000 in
theorem acorr_nil (p s : Int) (w : World) : Calls Try.prog 24 #[.pointer none, .int .i64 p, .int .i64 s] w fun e w' => e = .returned (.int .i64 0) ∧ Below w.heap.size w w' := by
  have b := btC_bd s
  have h1 := heV_bd p
  have h2 := heV_bd (640 * btC s)
  obtain ⟨m, em⟩ : ∃ m, m = (if s < 7500 then 7500 else s) := ⟨_, rfl⟩
  obtain ⟨c, ec⟩ : ∃ c, c = btC s := ⟨_, rfl⟩
  have n1 : (if s < 7500 then (7500 : Int) else s) = m := em.symm
  have n2 : (if 10800 < m then (10800 : Int) else m) = c := by rw [ec, em]; unfold btC c09; omega
  have H1 := Lib.hid (fun u => aheight_nil p u)
  have H2 := Lib.hid (fun u => aheight_nil (640 * c) u)
  rw [← ec] at b
  have n3 : IntKind.i64.wrap (640 * c) = 640 * c := by rw [IntKind.wrap_i64]; omega
  replace em := Lib.hid em
  replace ec := Lib.hid ec
  clear b h1 h2
  go_enter Try.func24, Try.ntmps24
  go_wp2_with fail
  refine (H1.out _).mono ?_
  rintro e w1 ⟨rfl, hb1⟩
  go_wp2_with fail
  refine (H2.out _).mono ?_
  rintro e w2 ⟨rfl, hb2⟩
  have hb3 := Lib.hid (hb1.trans (hb2.mono hb1.size))
  clear hb1 hb2
  go_wp2
  go_ret
  exact ⟨rfl, hb3.out⟩
set_option maxRecDepth 100000 in
set_option maxHeartbeats 8000000 in
theorem rcorr (p s : Int) (g off cap : Nat) (w u : World) (m0 : AirW w u) (s0 : StC w g off u) : Calls Try.prog 25 #[.slice (some ⟨g, off, none⟩) 2101 cap, .int .i64 p, .int .i64 s] u fun e w' => e = .returned (.int .i64 (coV p s)) ∧ AirW w w' ∧ StC w g off w' := by
  have b := btC_bd s
  have h1 := heV_bd p
  have h2 := heV_bd (640 * btC s)
  have CL := Lib.hid (fun u => c09_any s 7500 10800 (by omega) u)
  have H1 := Lib.hid (fun u m s => rheightW p g off cap w u m s)
  have H2 := fun u m s' => rheightW (640 * btC s) g off cap w u m s'
  unfold coV
  rw [show c09 s 7500 10800 = btC s from rfl] at CL
  obtain ⟨c, ec⟩ : ∃ c, c = btC s := ⟨_, rfl⟩
  rw [← ec] at b h2 H2 CL ⊢
  have n3 : IntKind.i64.wrap (640 * c) = 640 * c := by rw [IntKind.wrap_i64]; omega
  have n4 : IntKind.i64.wrap (heV p - heV (640 * c)) = heV p - heV (640 * c) := by rw [IntKind.wrap_i64]; omega
  generalize heV p = X at *
  generalize heV (640 * c) = Y at *
  replace H2 := Lib.hid H2
  replace ec := Lib.hid ec
  replace m0 := Lib.hid m0
  replace s0 := Lib.hid s0
  clear b h1 h2
  go_enter Try.func25, Try.ntmps25
  go_wp2_with fail
  refine (H1.out _ m0.out s0.out).mono ?_
  rintro e w1 ⟨rfl, m1, s1⟩
  replace m1 := Lib.hid m1
  replace s1 := Lib.hid s1
  go_wp2_with fail
  refine (CL.out _).mono ?_
  rintro e w3 ⟨rfl, rfl⟩
  go_wp2_with fail
  refine (H2.out _ m1.out s1.out).mono ?_
  rintro e w2 ⟨rfl, m2, s2⟩
  replace m2 := Lib.hid m2
  replace s2 := Lib.hid s2
  go_wp2
  go_ret
  exact ⟨rfl, m2.out, s2.out⟩
set_option maxRecDepth 100000 in
set_option maxHeartbeats 8000000 in
theorem law_BaroCorrects (p s : Int) (w : World) : Calls Try.prog 8 #[.int .i64 p, .int .i64 s] w fun e w' => e = .returned (.bool true) ∧ Below w.heap.size w w' := by
  obtain ⟨Z, V, hz, eV, mV⟩ := air_newW w
  replace eV := Lib.hid eV
  replace mV := Lib.hid mV
  have LV := Lib.hid (fun u => lives11 u)
  have AC := Lib.hid (fun u m => acorr p s w u m)
  have AN := Lib.hid (fun u => acorr_nil p s u)
  have RS := Lib.hid (fun u m => rstepsW w u m)
  have RC := Lib.hid (fun g off cap u m s' => rcorr p s g off cap w u m s')
  generalize coV p s = X at *
  go_enter Try.func8, Try.ntmps8
  go_wp2_with fail
  rw [← eV.out]
  refine (AC.out _ mV.out).mono ?_
  rintro e w3 ⟨rfl, m3, -⟩
  replace m3 := Lib.hid m3
  go_wp2_with fail
  refine (RS.out _ m3.out).mono ?_
  rintro e w4 ⟨g, off, cap, rfl, s4, m4⟩
  replace m4 := Lib.hid m4
  replace s4 := Lib.hid s4
  go_wp2_with fail
  refine (RC.out g off cap _ m4.out s4.out).mono ?_
  rintro e w5 ⟨rfl, m5, -⟩
  replace m5 := Lib.hid m5
  go_wp2_with fail
  refine (AN.out _).mono ?_
  rintro e w6 ⟨rfl, hb6⟩
  have m6 := Lib.hid (m5.out.bel hb6)
  clear hb6
  go_wp2_with fail
  refine (LV.out _).mono ?_
  rintro e w20 ⟨rfl, hb20⟩
  have m20 := Lib.hid (m6.out.bel hb20)
  clear hb20
  go_wp2
  go_ret
  exact ⟨rfl, m20.out.b⟩
theorem br_box (w : World) (x0 x1 y0 y1 : Int) : ∃ V, V = ((w.alloc (.cells #[.int .i64 x0, .int .i64 x1] 45)).alloc (.cells #[.int .i64 y0, .int .i64 y1] 45)) ∧ Below w.heap.size w V ∧ V.heap.size = w.heap.size + 2 ∧ ∀ u, Below (w.heap.size + 2) V u → u.cell? ⟨w.heap.size, 0, none⟩ = some (.int .i64 x0) ∧ u.cell? ⟨w.heap.size, 1, none⟩ = some (.int .i64 x1) ∧ u.cell? ⟨w.heap.size + 1, 0, none⟩ = some (.int .i64 y0) ∧ u.cell? ⟨w.heap.size + 1, 1, none⟩ = some (.int .i64 y1) :=
  ⟨_, rfl, (by repeat (first | exact Below.refl _ _ | assumption | apply Below.drew | apply below_drewN | (refine Below.alloc ?_ (by first | exact Nat.le_refl _ | omega | (simp <;> omega)) _) | (refine Below.setCell ?_ (by first | exact Nat.le_refl _ | omega | (simp <;> omega)) _))), by simp, fun u hu => ⟨(bc hu (by omega)).trans (by go_simp), (bc hu (by omega)).trans (by go_simp), (bc hu (by omega)).trans (by go_simp), (bc hu (by omega)).trans (by go_simp)⟩⟩
theorem bFM (f : Int) (h1 : -1000000 ≤ f) (h2 : f ≤ 1000000) : 0 ≤ f - bF (bM f) ∧ f - bF (bM f) ≤ 1 := by
  have e1 : clp f = f := by unfold clp; omega
  have e2 : bM f = f * 3048 / 100 := by
    unfold bM fitV
    rw [e1, wq_bp (by omega)]
    omega
  have e3 : clp (f * 3048 / 100) = f * 3048 / 100 := by unfold clp; omega
  rw [e2]
  unfold bF
  rw [e3]
  omega
set_option maxRecDepth 100000 in
set_option maxHeartbeats 8000000 in
theorem law_BaroRises (x0 x1 y0 y1 f : Int) (w : World) : Calls Try.prog 10 #[.agg #[.int .i64 x0, .int .i64 x1], .agg #[.int .i64 y0, .int .i64 y1], .int .i64 f] w fun e w' => e = .returned (.bool true) ∧ Below w.heap.size w w' := by
  obtain ⟨V, eV, hb0, hz, hcs⟩ := br_box w x0 x1 y0 y1
  obtain ⟨Z, U, hZ, eU, mU⟩ := air_newW V
  have LV := Lib.hid (fun u => lives11 u)
  have A0 := Lib.hid (fun u m => acorr x0 y0 V u m)
  have A1 := Lib.hid (fun u m => acorr x0 y1 V u m)
  have A2 := Lib.hid (fun u m => acorr x1 y0 V u m)
  have U1 := Lib.hid (fun (h : y0 ≤ y1) => coV_up x0 h)
  have U2 := Lib.hid (fun (h : x0 ≤ x1) => coV_dn y0 h)
  generalize coV x0 y0 = X at *
  generalize coV x0 y1 = Y at *
  generalize coV x1 y0 = W at *
  have MT := Lib.hid (fun u => bmet_any f u)
  have FT := Lib.hid (fun u => bfeet_any (bM f) u)
  have FB := Lib.hid (fun (a : -1000000 ≤ f) (b : f ≤ 1000000) => bFM f a b)
  generalize bF (bM f) = F at *
  generalize bM f = M at *
  replace eU := Lib.hid eU
  replace mU := Lib.hid mU
  rcases (show x1 < x0 ∨ (x0 ≤ x1 ∧ y1 < y0) ∨ (x0 ≤ x1 ∧ y0 ≤ y1) by omega) with g | ⟨g, g2⟩ | ⟨g, g2⟩
  · skip
    replace hb0 := Lib.hid hb0
    replace hz := Lib.hid hz
    replace hcs := Lib.hid hcs
    replace eV := Lib.hid eV
    go_enter Try.func10, Try.ntmps10
    go_upto_region 1 with (fail)
    rw [← eV.out]
    go_upto_region 2 with (fail)
    rw [← eU.out]
    obtain ⟨k0, k1, k2, k3⟩ := hcs.out _ (mU.out.b.mono (Nat.le_of_eq hz.out.symm))
    go_wp2_with fail
    refine (LV.out _).mono ?_
    rintro e w20 ⟨rfl, hb20⟩
    have m20 := Lib.hid (mU.out.bel hb20)
    clear hb20
    go_wp2
    go_ret
    exact ⟨rfl, hb0.out.trans (m20.out.b.mono (by have := hz.out; omega))⟩
  · skip
    replace hb0 := Lib.hid hb0
    replace hz := Lib.hid hz
    replace hcs := Lib.hid hcs
    replace eV := Lib.hid eV
    go_enter Try.func10, Try.ntmps10
    go_upto_region 1 with (fail)
    rw [← eV.out]
    go_upto_region 2 with (fail)
    rw [← eU.out]
    obtain ⟨k0, k1, k2, k3⟩ := hcs.out _ (mU.out.b.mono (Nat.le_of_eq hz.out.symm))
    go_wp2_with fail
    refine (LV.out _).mono ?_
    rintro e w20 ⟨rfl, hb20⟩
    have m20 := Lib.hid (mU.out.bel hb20)
    clear hb20
    go_wp2
    go_ret
    exact ⟨rfl, hb0.out.trans (m20.out.b.mono (by have := hz.out; omega))⟩
  · have u1 := U1.out g2
    have u2 := U2.out g
    have d1 : decide (Y < X) = false := by simp; omega
    have u3 : ¬ Y < X := by omega
    have d2 : decide (X < W) = false := by simp; omega
    have u4 : ¬ X < W := by omega
    replace hb0 := Lib.hid hb0
    replace hz := Lib.hid hz
    replace hcs := Lib.hid hcs
    replace eV := Lib.hid eV
    go_enter Try.func10, Try.ntmps10
    go_upto_region 1 with (fail)
    rw [← eV.out]
    go_upto_region 2 with (fail)
    rw [← eU.out]
    obtain ⟨k0, k1, k2, k3⟩ := hcs.out _ (mU.out.b.mono (Nat.le_of_eq hz.out.symm))
    go_wp2_with fail
    refine region_moves (fun u => u.cell? ⟨w.heap.size, 0, none⟩ = some (.int .i64 x0) ∧ u.cell? ⟨w.heap.size, 1, none⟩ = some (.int .i64 x1) ∧ u.cell? ⟨w.heap.size + 1, 0, none⟩ = some (.int .i64 y0) ∧ u.cell? ⟨w.heap.size + 1, 1, none⟩ = some (.int .i64 y1)) [] [(.free, 0), (.take, 1), (.free, 2), (.take, 3), (.free, 5), (.take, 6), (.free, 7), (.take, 8), (.step, 4), (.step, 9), (.free, 10), (.free, 11), (.free, 12), (.take, 13), (.free, 14), (.take, 15), (.free, 17), (.take, 18), (.free, 19), (.take, 20), (.step, 16), (.step, 21), (.free, 22), (.free, 23)] _ (by kernel_rfl) (by kernel_rfl) (by kernel_rfl) (by kernel_rfl) (by decide) rfl (fun _ _ _ _ _ h => h) ?_
    simp only [List.filterMap_cons, List.filterMap_nil, List.getElem?_toArray, List.getElem?_cons_zero, List.getElem?_cons_succ, Option.map_some]
    iterate 1
      first
        | (refine mv_free ?_ (Or.inl ⟨by rfl, ?_⟩) (⟨k0, k1, k2, k3⟩) ?_
           rotate_left 1
           · intro u
             go_simp
             try simp only [d1]
             try simp only [d2]
             try simp only [d3]
             try with_reducible rfl
           simp only [Act.put, List.setIfInBounds_toArray, List.set_cons_zero, List.set_cons_succ])
        | (refine mv_free _ (Or.inr ⟨by rfl, rfl⟩) (⟨k0, k1, k2, k3⟩) ?_
           simp only [Act.put, List.setIfInBounds_toArray, List.set_cons_zero, List.set_cons_succ])
    iterate 1
      first
        | (refine mv_take ?_ (Or.inl ⟨by rfl, ?_⟩) (⟨k0, k1, k2, k3⟩) ?_
           rotate_left 1
           · intro u hu
             (try dsimp only at hu)
             go_simp
             try with_reducible rfl
           simp only [Act.put, List.setIfInBounds_toArray, List.set_cons_zero, List.set_cons_succ])
        | (refine mv_take _ (Or.inr ⟨by rfl, rfl⟩) (⟨k0, k1, k2, k3⟩) ?_
           simp only [Act.put, List.setIfInBounds_toArray, List.set_cons_zero, List.set_cons_succ])
    iterate 1
      first
        | (refine mv_free ?_ (Or.inl ⟨by rfl, ?_⟩) (⟨k0, k1, k2, k3⟩) ?_
           rotate_left 1
           · intro u
             go_simp
             try simp only [d1]
             try simp only [d2]
             try simp only [d3]
             try with_reducible rfl
           simp only [Act.put, List.setIfInBounds_toArray, List.set_cons_zero, List.set_cons_succ])
        | (refine mv_free _ (Or.inr ⟨by rfl, rfl⟩) (⟨k0, k1, k2, k3⟩) ?_
           simp only [Act.put, List.setIfInBounds_toArray, List.set_cons_zero, List.set_cons_succ])
    iterate 1
      first
        | (refine mv_take ?_ (Or.inl ⟨by rfl, ?_⟩) (⟨k0, k1, k2, k3⟩) ?_
           rotate_left 1
           · intro u hu
             (try dsimp only at hu)
             go_simp
             try with_reducible rfl
           simp only [Act.put, List.setIfInBounds_toArray, List.set_cons_zero, List.set_cons_succ])
        | (refine mv_take _ (Or.inr ⟨by rfl, rfl⟩) (⟨k0, k1, k2, k3⟩) ?_
           simp only [Act.put, List.setIfInBounds_toArray, List.set_cons_zero, List.set_cons_succ])
    iterate 1
      first
        | (refine mv_free ?_ (Or.inl ⟨by rfl, ?_⟩) (⟨k0, k1, k2, k3⟩) ?_
           rotate_left 1
           · intro u
             go_simp
             try simp only [d1]
             try simp only [d2]
             try simp only [d3]
             try with_reducible rfl
           simp only [Act.put, List.setIfInBounds_toArray, List.set_cons_zero, List.set_cons_succ])
        | (refine mv_free _ (Or.inr ⟨by rfl, rfl⟩) (⟨k0, k1, k2, k3⟩) ?_
           simp only [Act.put, List.setIfInBounds_toArray, List.set_cons_zero, List.set_cons_succ])
    iterate 1
      first
        | (refine mv_take ?_ (Or.inl ⟨by rfl, ?_⟩) (⟨k0, k1, k2, k3⟩) ?_
           rotate_left 1
           · intro u hu
             (try dsimp only at hu)
             go_simp
             try with_reducible rfl
           simp only [Act.put, List.setIfInBounds_toArray, List.set_cons_zero, List.set_cons_succ])
        | (refine mv_take _ (Or.inr ⟨by rfl, rfl⟩) (⟨k0, k1, k2, k3⟩) ?_
           simp only [Act.put, List.setIfInBounds_toArray, List.set_cons_zero, List.set_cons_succ])
    iterate 1
      first
        | (refine mv_free ?_ (Or.inl ⟨by rfl, ?_⟩) (⟨k0, k1, k2, k3⟩) ?_
           rotate_left 1
           · intro u
             go_simp
             try simp only [d1]
             try simp only [d2]
             try simp only [d3]
             try with_reducible rfl
           simp only [Act.put, List.setIfInBounds_toArray, List.set_cons_zero, List.set_cons_succ])
        | (refine mv_free _ (Or.inr ⟨by rfl, rfl⟩) (⟨k0, k1, k2, k3⟩) ?_
           simp only [Act.put, List.setIfInBounds_toArray, List.set_cons_zero, List.set_cons_succ])
    iterate 1
      first
        | (refine mv_take ?_ (Or.inl ⟨by rfl, ?_⟩) (⟨k0, k1, k2, k3⟩) ?_
           rotate_left 1
           · intro u hu
             (try dsimp only at hu)
             go_simp
             try with_reducible rfl
           simp only [Act.put, List.setIfInBounds_toArray, List.set_cons_zero, List.set_cons_succ])
        | (refine mv_take _ (Or.inr ⟨by rfl, rfl⟩) (⟨k0, k1, k2, k3⟩) ?_
           simp only [Act.put, List.setIfInBounds_toArray, List.set_cons_zero, List.set_cons_succ])
    refine mv_step (fun K hK => ?_)
    go_simp
    refine (A0.out _ mU.out.drew).mono ?_
    rintro e w4 ⟨rfl, m4, -⟩
    replace m4 := Lib.hid m4
    obtain ⟨k0, k1, k2, k3⟩ := hcs.out _ (m4.out.b.mono (Nat.le_of_eq hz.out.symm))
    go_wp2_with fail
    refine hK.out _ _ _ (fun u hu => hu) (⟨k0, k1, k2, k3⟩) ?_
    clear hK K
    refine mv_step (fun K hK => ?_)
    go_simp
    refine (A1.out _ m4.out).mono ?_
    rintro e w5 ⟨rfl, m5, -⟩
    replace m5 := Lib.hid m5
    obtain ⟨k0, k1, k2, k3⟩ := hcs.out _ (m5.out.b.mono (Nat.le_of_eq hz.out.symm))
    go_wp2_with fail
    refine hK.out _ _ _ (fun u hu => hu) (⟨k0, k1, k2, k3⟩) ?_
    clear hK K
    iterate 3
      first
        | (refine mv_free ?_ (Or.inl ⟨by rfl, ?_⟩) (⟨k0, k1, k2, k3⟩) ?_
           rotate_left 1
           · intro u
             go_simp
             try simp only [d1]
             try simp only [d2]
             try simp only [d3]
             try with_reducible rfl
           simp only [Act.put, List.setIfInBounds_toArray, List.set_cons_zero, List.set_cons_succ])
        | (refine mv_free _ (Or.inr ⟨by rfl, rfl⟩) (⟨k0, k1, k2, k3⟩) ?_
           simp only [Act.put, List.setIfInBounds_toArray, List.set_cons_zero, List.set_cons_succ])
    iterate 1
      first
        | (refine mv_take ?_ (Or.inl ⟨by rfl, ?_⟩) (⟨k0, k1, k2, k3⟩) ?_
           rotate_left 1
           · intro u hu
             (try dsimp only at hu)
             go_simp
             try with_reducible rfl
           simp only [Act.put, List.setIfInBounds_toArray, List.set_cons_zero, List.set_cons_succ])
        | (refine mv_take _ (Or.inr ⟨by rfl, rfl⟩) (⟨k0, k1, k2, k3⟩) ?_
           simp only [Act.put, List.setIfInBounds_toArray, List.set_cons_zero, List.set_cons_succ])
    iterate 1
      first
        | (refine mv_free ?_ (Or.inl ⟨by rfl, ?_⟩) (⟨k0, k1, k2, k3⟩) ?_
           rotate_left 1
           · intro u
             go_simp
             try simp only [d1]
             try simp only [d2]
             try simp only [d3]
             try with_reducible rfl
           simp only [Act.put, List.setIfInBounds_toArray, List.set_cons_zero, List.set_cons_succ])
        | (refine mv_free _ (Or.inr ⟨by rfl, rfl⟩) (⟨k0, k1, k2, k3⟩) ?_
           simp only [Act.put, List.setIfInBounds_toArray, List.set_cons_zero, List.set_cons_succ])
    iterate 1
      first
        | (refine mv_take ?_ (Or.inl ⟨by rfl, ?_⟩) (⟨k0, k1, k2, k3⟩) ?_
           rotate_left 1
           · intro u hu
             (try dsimp only at hu)
             go_simp
             try with_reducible rfl
           simp only [Act.put, List.setIfInBounds_toArray, List.set_cons_zero, List.set_cons_succ])
        | (refine mv_take _ (Or.inr ⟨by rfl, rfl⟩) (⟨k0, k1, k2, k3⟩) ?_
           simp only [Act.put, List.setIfInBounds_toArray, List.set_cons_zero, List.set_cons_succ])
    iterate 1
      first
        | (refine mv_free ?_ (Or.inl ⟨by rfl, ?_⟩) (⟨k0, k1, k2, k3⟩) ?_
           rotate_left 1
           · intro u
             go_simp
             try simp only [d1]
             try simp only [d2]
             try simp only [d3]
             try with_reducible rfl
           simp only [Act.put, List.setIfInBounds_toArray, List.set_cons_zero, List.set_cons_succ])
        | (refine mv_free _ (Or.inr ⟨by rfl, rfl⟩) (⟨k0, k1, k2, k3⟩) ?_
           simp only [Act.put, List.setIfInBounds_toArray, List.set_cons_zero, List.set_cons_succ])
    iterate 1
      first
        | (refine mv_take ?_ (Or.inl ⟨by rfl, ?_⟩) (⟨k0, k1, k2, k3⟩) ?_
           rotate_left 1
           · intro u hu
             (try dsimp only at hu)
             go_simp
             try with_reducible rfl
           simp only [Act.put, List.setIfInBounds_toArray, List.set_cons_zero, List.set_cons_succ])
        | (refine mv_take _ (Or.inr ⟨by rfl, rfl⟩) (⟨k0, k1, k2, k3⟩) ?_
           simp only [Act.put, List.setIfInBounds_toArray, List.set_cons_zero, List.set_cons_succ])
    iterate 1
      first
        | (refine mv_free ?_ (Or.inl ⟨by rfl, ?_⟩) (⟨k0, k1, k2, k3⟩) ?_
           rotate_left 1
           · intro u
             go_simp
             try simp only [d1]
             try simp only [d2]
             try simp only [d3]
             try with_reducible rfl
           simp only [Act.put, List.setIfInBounds_toArray, List.set_cons_zero, List.set_cons_succ])
        | (refine mv_free _ (Or.inr ⟨by rfl, rfl⟩) (⟨k0, k1, k2, k3⟩) ?_
           simp only [Act.put, List.setIfInBounds_toArray, List.set_cons_zero, List.set_cons_succ])
    iterate 1
      first
        | (refine mv_take ?_ (Or.inl ⟨by rfl, ?_⟩) (⟨k0, k1, k2, k3⟩) ?_
           rotate_left 1
           · intro u hu
             (try dsimp only at hu)
             go_simp
             try with_reducible rfl
           simp only [Act.put, List.setIfInBounds_toArray, List.set_cons_zero, List.set_cons_succ])
        | (refine mv_take _ (Or.inr ⟨by rfl, rfl⟩) (⟨k0, k1, k2, k3⟩) ?_
           simp only [Act.put, List.setIfInBounds_toArray, List.set_cons_zero, List.set_cons_succ])
    refine mv_step (fun K hK => ?_)
    go_simp
    refine (A0.out _ m5.out).mono ?_
    rintro e w6 ⟨rfl, m6, -⟩
    replace m6 := Lib.hid m6
    obtain ⟨k0, k1, k2, k3⟩ := hcs.out _ (m6.out.b.mono (Nat.le_of_eq hz.out.symm))
    go_wp2_with fail
    refine hK.out _ _ _ (fun u hu => hu) (⟨k0, k1, k2, k3⟩) ?_
    clear hK K
    refine mv_step (fun K hK => ?_)
    go_simp
    refine (A2.out _ m6.out).mono ?_
    rintro e w7 ⟨rfl, m7, -⟩
    replace m7 := Lib.hid m7
    obtain ⟨k0, k1, k2, k3⟩ := hcs.out _ (m7.out.b.mono (Nat.le_of_eq hz.out.symm))
    go_wp2_with fail
    refine hK.out _ _ _ (fun u hu => hu) (⟨k0, k1, k2, k3⟩) ?_
    clear hK K
    iterate 2
      first
        | (refine mv_free ?_ (Or.inl ⟨by rfl, ?_⟩) (⟨k0, k1, k2, k3⟩) ?_
           rotate_left 1
           · intro u
             go_simp
             try simp only [d1]
             try simp only [d2]
             try simp only [d3]
             try with_reducible rfl
           simp only [Act.put, List.setIfInBounds_toArray, List.set_cons_zero, List.set_cons_succ])
        | (refine mv_free _ (Or.inr ⟨by rfl, rfl⟩) (⟨k0, k1, k2, k3⟩) ?_
           simp only [Act.put, List.setIfInBounds_toArray, List.set_cons_zero, List.set_cons_succ])
    refine mv_done ?_
    rcases (show f < -1000000 ∨ (-1000000 ≤ f ∧ 1000000 < f) ∨ (-1000000 ≤ f ∧ f ≤ 1000000) by omega) with h | ⟨h, h2⟩ | ⟨h, h2⟩
    · skip
      go_wp2_with fail
      refine (LV.out _).mono ?_
      rintro e w20 ⟨rfl, hb20⟩
      have m20 := Lib.hid (m7.out.bel hb20)
      clear hb20
      go_wp2
      go_ret
      exact ⟨rfl, hb0.out.trans (m20.out.b.mono (by have := hz.out; omega))⟩
    · skip
      go_wp2_with fail
      refine (LV.out _).mono ?_
      rintro e w20 ⟨rfl, hb20⟩
      have m20 := Lib.hid (m7.out.bel hb20)
      clear hb20
      go_wp2
      go_ret
      exact ⟨rfl, hb0.out.trans (m20.out.b.mono (by have := hz.out; omega))⟩
    · obtain ⟨q1, q2⟩ := FB.out h h2
      have n1 : IntKind.i64.wrap (f - F) = f - F := by rw [IntKind.wrap_i64]; omega
      clear k0 k1 k2 k3
      go_wp2_with fail
      refine (MT.out _).mono ?_
      rintro e w9 ⟨rfl, hb9⟩
      have m9 := Lib.hid (m7.out.bel hb9)
      clear hb9
      go_wp2_with fail
      refine (FT.out _).mono ?_
      rintro e w10 ⟨rfl, hb10⟩
      have m10 := Lib.hid (m9.out.bel hb10)
      clear hb10
      go_wp2_with fail
      refine (LV.out _).mono ?_
      rintro e w20 ⟨rfl, hb20⟩
      have m20 := Lib.hid (m10.out.bel hb20)
      clear hb20
      go_wp2
      go_ret
      exact ⟨rfl, hb0.out.trans (m20.out.b.mono (by have := hz.out; omega))⟩
/-- The setting's boxes behind the atmosphere. -/
structure SetC (w : World) (q : Nat) (p h : Int) (u : World) : Prop where
  ne : w.heap.size < q
  lt : q + 2 < u.heap.size
  c0 : u.cell? ⟨q, 0, none⟩ = some (.pointer (some ⟨w.heap.size, 0, none⟩))
  c1 : u.cell? ⟨q + 1, 0, none⟩ = some (.int .i64 p)
  c2 : u.cell? ⟨q + 2, 0, none⟩ = some (.int .i64 h)
theorem SetC.beside {w u u' : World} {q : Nat} {p h : Int} (s : SetC w q p h u) (k : Beside w.heap.size u u') : SetC w q p h u' := by
  have n := s.ne
  have l := s.lt
  exact ⟨n, Nat.lt_of_lt_of_le l k.size, (World.cell?_of_block (a := ⟨q, 0, none⟩) (k.block q (by omega) (by omega))).trans s.c0, (World.cell?_of_block (a := ⟨q + 1, 0, none⟩) (k.block (q + 1) (by omega) (by omega))).trans s.c1, (World.cell?_of_block (a := ⟨q + 2, 0, none⟩) (k.block (q + 2) (by omega) (by omega))).trans s.c2⟩
theorem bs_box (w u : World) (p h : Int) (hw : w.heap.size < u.heap.size) : ∃ V, V = ((u.alloc (.cells #[.pointer (some ⟨w.heap.size, 0, none⟩)] 39)).alloc (.cells #[.int .i64 p] 2)).alloc (.cells #[.int .i64 h] 2) ∧ Below u.heap.size u V ∧ SetC w u.heap.size p h V :=
  ⟨_, rfl, (by repeat (first | exact Below.refl _ _ | assumption | apply Below.drew | apply below_drewN | (refine Below.alloc ?_ (by first | exact Nat.le_refl _ | omega | (simp <;> omega)) _) | (refine Below.setCell ?_ (by first | exact Nat.le_refl _ | omega | (simp <;> omega)) _))), ⟨hw, by simp, by go_simp, by go_simp, by go_simp⟩⟩
set_option maxRecDepth 100000 in
set_option maxHeartbeats 8000000 in
theorem aset1 (q : Nat) (p h : Int) (i : Nat) (w u : World) (hi : i < 3300) (m : AirW w u) (s : SetC w q p h u) : Calls Try.prog 49 #[.int .i64 (i : Int), .pointer (some ⟨q, 0, none⟩), .pointer (some ⟨q + 1, 0, none⟩), .pointer (some ⟨q + 2, 0, none⟩)] u fun e w' => e = .returned (.bool (decide (h ≤ coV p (7500 + (i : Int))))) ∧ AirW w w' ∧ SetC w q p h w' := by
  have AC := Lib.hid (fun u m => acorr p (7500 + (i : Int)) w u m)
  have n1 : IntKind.i64.wrap (7500 + (i : Int)) = 7500 + (i : Int) := by rw [IntKind.wrap_i64]; omega
  obtain ⟨k0, k1, k2⟩ : u.cell? ⟨q, 0, none⟩ = some (.pointer (some ⟨w.heap.size, 0, none⟩)) ∧ u.cell? ⟨q + 1, 0, none⟩ = some (.int .i64 p) ∧ u.cell? ⟨q + 2, 0, none⟩ = some (.int .i64 h) := ⟨s.c0, s.c1, s.c2⟩
  generalize coV p (7500 + (i : Int)) = X at *
  replace m := Lib.hid m
  replace s := Lib.hid s
  go_enter Try.func49, Try.ntmps49
  go_wp2_with fail
  refine region_moves (fun u => u.cell? ⟨q, 0, none⟩ = some (.pointer (some ⟨w.heap.size, 0, none⟩)) ∧ u.cell? ⟨q + 1, 0, none⟩ = some (.int .i64 p) ∧ u.cell? ⟨q + 2, 0, none⟩ = some (.int .i64 h)) [] [(.take, 0), (.take, 1), (.free, 2), (.free, 3), (.take, 5), (.step, 4), (.free, 6), (.free, 7)] _ (by kernel_rfl) (by kernel_rfl) (by kernel_rfl) (by kernel_rfl) (by decide) rfl (fun _ _ _ _ _ h => h) ?_
  simp only [List.filterMap_cons, List.filterMap_nil, List.getElem?_toArray, List.getElem?_cons_zero, List.getElem?_cons_succ, Option.map_some]
  iterate 2
    first
      | (refine mv_take ?_ (Or.inl ⟨by rfl, ?_⟩) (⟨k0, k1, k2⟩) ?_
         rotate_left 1
         · intro u hu
           (try dsimp only at hu)
           go_simp
           try with_reducible rfl
         simp only [Act.put, List.setIfInBounds_toArray, List.set_cons_zero, List.set_cons_succ])
      | (refine mv_take _ (Or.inr ⟨by rfl, rfl⟩) (⟨k0, k1, k2⟩) ?_
         simp only [Act.put, List.setIfInBounds_toArray, List.set_cons_zero, List.set_cons_succ])
  iterate 2
    first
      | (refine mv_free ?_ (Or.inl ⟨by rfl, ?_⟩) (⟨k0, k1, k2⟩) ?_
         rotate_left 1
         · intro u
           go_simp
           try simp only [d1]
           try simp only [d2]
           try simp only [d3]
           try with_reducible rfl
         simp only [Act.put, List.setIfInBounds_toArray, List.set_cons_zero, List.set_cons_succ])
      | (refine mv_free _ (Or.inr ⟨by rfl, rfl⟩) (⟨k0, k1, k2⟩) ?_
         simp only [Act.put, List.setIfInBounds_toArray, List.set_cons_zero, List.set_cons_succ])
  iterate 1
    first
      | (refine mv_take ?_ (Or.inl ⟨by rfl, ?_⟩) (⟨k0, k1, k2⟩) ?_
         rotate_left 1
         · intro u hu
           (try dsimp only at hu)
           go_simp
           try with_reducible rfl
         simp only [Act.put, List.setIfInBounds_toArray, List.set_cons_zero, List.set_cons_succ])
      | (refine mv_take _ (Or.inr ⟨by rfl, rfl⟩) (⟨k0, k1, k2⟩) ?_
         simp only [Act.put, List.setIfInBounds_toArray, List.set_cons_zero, List.set_cons_succ])
  refine mv_step (fun K hK => ?_)
  go_simp
  refine (AC.out _ m.out.drew).mono ?_
  rintro e w1 ⟨rfl, m1, bs1⟩
  have s1 := Lib.hid (s.out.beside ((Beside.of_below (Below.refl _ _).drew).trans bs1))
  obtain ⟨k0, k1, k2⟩ : w1.cell? ⟨q, 0, none⟩ = some (.pointer (some ⟨w.heap.size, 0, none⟩)) ∧ w1.cell? ⟨q + 1, 0, none⟩ = some (.int .i64 p) ∧ w1.cell? ⟨q + 2, 0, none⟩ = some (.int .i64 h) := ⟨s1.out.c0, s1.out.c1, s1.out.c2⟩
  replace m1 := Lib.hid m1
  clear bs1
  go_wp2_with fail
  refine hK.out _ _ _ (fun u hu => hu) (⟨k0, k1, k2⟩) ?_
  clear hK K
  iterate 2
    first
      | (refine mv_free ?_ (Or.inl ⟨by rfl, ?_⟩) (⟨k0, k1, k2⟩) ?_
         rotate_left 1
         · intro u
           go_simp
           try simp only [d1]
           try simp only [d2]
           try simp only [d3]
           try with_reducible rfl
         simp only [Act.put, List.setIfInBounds_toArray, List.set_cons_zero, List.set_cons_succ])
      | (refine mv_free _ (Or.inr ⟨by rfl, rfl⟩) (⟨k0, k1, k2⟩) ?_
         simp only [Act.put, List.setIfInBounds_toArray, List.set_cons_zero, List.set_cons_succ])
  refine mv_done ?_
  go_wp2
  go_ret
  exact ⟨rfl, m1.out, s1.out⟩
set_option maxRecDepth 100000 in
set_option maxHeartbeats 8000000 in
theorem aset (p h : Int) (r : Nat) (hr : r ≤ 3300) (h1 : ∀ t, t < r → decide (h ≤ coV p (7500 + (t : Int))) = false) (h2 : ∀ t, r ≤ t → t < 3300 → decide (h ≤ coV p (7500 + (t : Int))) = true) (w u : World) (m : AirW w u) : Calls Try.prog 27 #[.pointer (some ⟨w.heap.size, 0, none⟩), .int .i64 p, .int .i64 h] u fun e w' => e = .returned (.int .i64 (7500 + (r : Int))) ∧ AirW w w' := by
  obtain ⟨V, eV, hb, sV⟩ := bs_box w u p h m.r.lt
  have mV := m.bel hb
  have SR := Lib.hid (search_inv (fun v => AirW w v ∧ SetC w u.heap.size p h v) 49 #[.pointer (some ⟨u.heap.size, 0, none⟩), .pointer (some ⟨u.heap.size + 1, 0, none⟩), .pointer (some ⟨u.heap.size + 2, 0, none⟩)] 3300 r (fun t => decide (h ≤ coV p (7500 + (t : Int)))) V (enters_of Try.func49 (by kernel_rfl) rfl) (by omega) hr h1 h2 ⟨mV, sV⟩ (fun v i hi hI => aset1 u.heap.size p h i w v hi hI.1 hI.2))
  have n1 : IntKind.i64.wrap (7500 + (r : Int)) = 7500 + (r : Int) := by rw [IntKind.wrap_i64]; omega
  replace eV := Lib.hid eV
  clear h1 h2 hb sV mV m
  go_enter Try.func27, Try.ntmps27
  go_upto_region 1 with (fail)
  rw [← eV.out]
  go_wp2_with fail
  refine SR.out.mono ?_
  rintro e w1 ⟨rfl, m1, -⟩
  replace m1 := Lib.hid m1
  go_wp2
  go_ret
  exact ⟨rfl, m1.out⟩
set_option maxRecDepth 100000 in
set_option maxHeartbeats 8000000 in
theorem law_BaroSets (p h : Int) (w : World) : Calls Try.prog 9 #[.int .i64 p, .int .i64 h] w fun e w' => e = .returned (.bool true) ∧ Below w.heap.size w w' := by
  obtain ⟨Z, V, hz, eV, mV⟩ := air_newW w
  replace eV := Lib.hid eV
  replace mV := Lib.hid mV
  have LV := Lib.hid (fun u => lives11 u)
  obtain ⟨r, hr, h1, h2⟩ := least_place (fun t => decide (h ≤ coV p (7500 + (t : Int)))) 3300 (fun a b hab hb ha => by
    simp only [decide_eq_true_eq] at ha ⊢
    have := coV_up p (a := 7500 + (a : Int)) (b := 7500 + (b : Int)) (by omega)
    omega)
  have AS := Lib.hid (fun u m => aset p h r hr h1 h2 w u m)
  have RS := Lib.hid (fun u m => rstepsW w u m)
  have RC := Lib.hid (fun (s : Int) g off cap u m s' => rcorr p s g off cap w u m s')
  have hi : r < 3300 → h ≤ coV p (7500 + (r : Int)) := fun k => by simpa using h2 r (Nat.le_refl _) k
  have lo : 0 < r → coV p (7500 + (r : Int) - 1) < h := fun k => by
    have := h1 (r - 1) (by omega)
    rw [show 7500 + ((r - 1 : Nat) : Int) = 7500 + (r : Int) - 1 by omega] at this
    simpa using this
  clear h1 h2
  obtain ⟨s, es⟩ : ∃ s : Int, s = 7500 + (r : Int) := ⟨_, rfl⟩
  rw [← es] at AS hi lo
  have s1 : 7500 ≤ s := by omega
  have s2 : s ≤ 10800 := by omega
  have n1 : IntKind.i64.wrap (s - 1) = s - 1 := by rw [IntKind.wrap_i64]; omega
  have R1 := Lib.hid (fun g off cap u m s' => RC.out s g off cap u m s')
  have R2 := Lib.hid (fun g off cap u m s' => RC.out (s - 1) g off cap u m s')
  have hi : s < 10800 → h ≤ coV p s := fun k => hi (by omega)
  have lo : ¬ s = 7500 → coV p (s - 1) < h := fun k => lo (by omega)
  clear RC
  generalize coV p s = X at *
  generalize coV p (s - 1) = Y at *
  clear es hr
  rcases (show s = 7500 ∨ (s ≠ 7500 ∧ s < 10800) ∨ (s = 10800) by omega) with q | ⟨q, q2⟩ | q
  · have x1 := hi (by omega)
    have y1 : ¬ X < h := by omega
    clear hi lo
    have q1 : s < 10800 := by omega
    subst q
    go_enter Try.func9, Try.ntmps9
    go_wp2_with fail
    rw [← eV.out]
    refine (AS.out _ mV.out).mono ?_
    rintro e w3 ⟨rfl, m3⟩
    replace m3 := Lib.hid m3
    go_wp2_with fail
    refine (RS.out _ m3.out).mono ?_
    rintro e w4 ⟨g, off, cap, rfl, s4, m4⟩
    replace m4 := Lib.hid m4
    replace s4 := Lib.hid s4
    go_wp2_with fail
    refine (R1.out g off cap _ m4.out s4.out).mono ?_
    rintro e w5 ⟨rfl, m4, s4⟩
    replace m4 := Lib.hid m4
    replace s4 := Lib.hid s4
    go_wp2_with fail
    refine (LV.out _).mono ?_
    rintro e w20 ⟨rfl, hb20⟩
    have m20 := Lib.hid (m4.out.bel hb20)
    clear hb20
    go_wp2
    go_ret
    exact ⟨rfl, m20.out.b⟩
  · have x1 := hi q2
    have y1 : ¬ X < h := by omega
    have x2 := lo q
    have q3 : (s == 7500) = false := by simp [q]
    clear hi lo
    go_enter Try.func9, Try.ntmps9
    go_wp2_with fail
    rw [← eV.out]
    refine (AS.out _ mV.out).mono ?_
    rintro e w3 ⟨rfl, m3⟩
    replace m3 := Lib.hid m3
    go_wp2_with fail
    refine (RS.out _ m3.out).mono ?_
    rintro e w4 ⟨g, off, cap, rfl, s4, m4⟩
    replace m4 := Lib.hid m4
    replace s4 := Lib.hid s4
    go_wp2_with fail
    refine (R1.out g off cap _ m4.out s4.out).mono ?_
    rintro e w5 ⟨rfl, m4, s4⟩
    replace m4 := Lib.hid m4
    replace s4 := Lib.hid s4
    go_wp2_with fail
    refine (R2.out g off cap _ m4.out s4.out).mono ?_
    rintro e w6 ⟨rfl, m4, s4⟩
    replace m4 := Lib.hid m4
    replace s4 := Lib.hid s4
    go_wp2_with fail
    refine (LV.out _).mono ?_
    rintro e w20 ⟨rfl, hb20⟩
    have m20 := Lib.hid (m4.out.bel hb20)
    clear hb20
    go_wp2
    go_ret
    exact ⟨rfl, m20.out.b⟩
  · have x2 := lo (by omega)
    clear hi lo
    subst q
    go_enter Try.func9, Try.ntmps9
    go_wp2_with fail
    rw [← eV.out]
    refine (AS.out _ mV.out).mono ?_
    rintro e w3 ⟨rfl, m3⟩
    replace m3 := Lib.hid m3
    go_wp2_with fail
    refine (RS.out _ m3.out).mono ?_
    rintro e w4 ⟨g, off, cap, rfl, s4, m4⟩
    replace m4 := Lib.hid m4
    replace s4 := Lib.hid s4
    go_wp2_with fail
    refine (R2.out g off cap _ m4.out s4.out).mono ?_
    rintro e w6 ⟨rfl, m4, s4⟩
    replace m4 := Lib.hid m4
    replace s4 := Lib.hid s4
    go_wp2_with fail
    refine (LV.out _).mono ?_
    rintro e w20 ⟨rfl, hb20⟩
    have m20 := Lib.hid (m4.out.bel hb20)
    clear hb20
    go_wp2
    go_ret
    exact ⟨rfl, m20.out.b⟩
end Go.Proofs.Ytlgiefdhjhijaaa
