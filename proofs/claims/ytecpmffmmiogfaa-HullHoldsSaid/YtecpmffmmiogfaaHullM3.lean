/- The law HullHolds; walked. -/
import Derived.Test.YtecpmffmmiogfaaHullM2
import Derived.Deep.CutRange
namespace Go.Proofs.Ytecpmffmmiogfaa
open Go.ChangeShapes Go.WideShapes Go.ChangeAt Go.RowKit
set_option linter.unusedVariables false
set_option linter.unusedSimpArgs false
def sp6 (X E : Nat → Int) : List Value := [.int .i64 (X 0), .int .i64 (E 0), .int .i64 (X 1), .int .i64 (E 1), .int .i64 (X 2), .int .i64 (E 2)]
def sp3 (X : Nat → Int) : List Value := [.int .i64 (X 0), .int .i64 (X 1), .int .i64 (X 2)]
theorem sp6_v {X E : Nat → Int} {k : Nat} (h : k < 3) : (sp6 X E)[k * 2]? = some (.int .i64 (X k)) := by
  rcases (show k = 0 ∨ k = 1 ∨ k = 2 by omega) with rfl | rfl | rfl <;> rfl
theorem sp6_e {X E : Nat → Int} {k : Nat} (h : k < 3) : (sp6 X E)[k * 2 + 1]? = some (.int .i64 (E k)) := by
  rcases (show k = 0 ∨ k = 1 ∨ k = 2 by omega) with rfl | rfl | rfl <;> rfl
theorem sp3_v {X : Nat → Int} {k : Nat} (h : k < 3) : (sp3 X)[k]? = some (.int .i64 (X k)) := by
  rcases (show k = 0 ∨ k = 1 ∨ k = 2 by omega) with rfl | rfl | rfl <;> rfl
/-- What the law holds. -/
structure HhK (LO HI V : Nat → Int) (w wa u : World) : Prop where
  x : Held w.heap.size (sp6 LO HI) u
  v : Held (w.heap.size + 1) (sp3 V) u
  m : AirW wa u
  s : wa.heap.size = w.heap.size + 2
theorem HhK.xx {LO HI V : Nat → Int} {w wa u : World} (h : HhK LO HI V w wa u) : Held w.heap.size [.int .i64 (LO 0), .int .i64 (HI 0), .int .i64 (LO 1), .int .i64 (HI 1), .int .i64 (LO 2), .int .i64 (HI 2)] u := h.x
theorem HhK.vv {LO HI V : Nat → Int} {w wa u : World} (h : HhK LO HI V w wa u) : Held (w.heap.size + 1) [.int .i64 (V 0), .int .i64 (V 1), .int .i64 (V 2)] u := h.v
theorem HhK.bel {LO HI V : Nat → Int} {w wa u u' : World} (h : HhK LO HI V w wa u) (k : Below u.heap.size u u') : HhK LO HI V w wa u' := ⟨h.x.bel k, h.v.bel k, h.m.bel k, h.s⟩
theorem HhK.drew {LO HI V : Nat → Int} {w wa u : World} (h : HhK LO HI V w wa u) : HhK LO HI V w wa u.drew := h.bel (Below.refl _ _).drew
theorem HhK.air {LO HI V : Nat → Int} {w wa u u' : World} (h : HhK LO HI V w wa u) (m : AirW wa u') (k : Beside wa.heap.size u u') : HhK LO HI V w wa u' := ⟨h.x.beside k (by have := h.s; omega), h.v.beside k (by have := h.s; omega), m, h.s⟩
theorem HhK.lt {LO HI V : Nat → Int} {w wa u : World} (h : HhK LO HI V w wa u) : w.heap.size + 3 ≤ u.heap.size := by have := h.m.r.lt; have := h.s; omega
theorem hh_box (LO HI V : Nat → Int) (w : World) : ∃ (Z : Array Value) (wa U : World), (∀ u, (zeroValue 70).run Try.prog u = .ok (.agg Z) u) ∧ wa = (w.alloc (.cells #[.int .i64 (LO 0), .int .i64 (HI 0), .int .i64 (LO 1), .int .i64 (HI 1), .int .i64 (LO 2), .int .i64 (HI 2)] 54)).alloc (.cells #[.int .i64 (V 0), .int .i64 (V 1), .int .i64 (V 2)] 55) ∧ U = wa.alloc (.cells Z 70) ∧ HhK LO HI V w wa U ∧ Below w.heap.size w wa := by
  obtain ⟨wa, ewa⟩ : ∃ wa, wa = (w.alloc (.cells #[.int .i64 (LO 0), .int .i64 (HI 0), .int .i64 (LO 1), .int .i64 (HI 1), .int .i64 (LO 2), .int .i64 (HI 2)] 54)).alloc (.cells #[.int .i64 (V 0), .int .i64 (V 1), .int .i64 (V 2)] 55) := ⟨_, rfl⟩
  obtain ⟨Z, U, hZ, hU, hA⟩ := air_newW wa
  have hx : Held w.heap.size (sp6 LO HI) wa := by rw [ewa]; exact (Held.new w (sp6 LO HI) 54).alloc _
  have hv : Held (w.heap.size + 1) (sp3 V) wa := by
    rw [ewa]
    have := Held.new (w.alloc (.cells #[.int .i64 (LO 0), .int .i64 (HI 0), .int .i64 (LO 1), .int .i64 (HI 1), .int .i64 (LO 2), .int .i64 (HI 2)] 54)) (sp3 V) 55
    simpa [sp3] using this
  have hb : Below w.heap.size w wa := by rw [ewa]; exact (by repeat (first | exact Below.refl _ _ | assumption | apply Below.drew | apply below_drewN | (refine Below.alloc ?_ (by first | exact Nat.le_refl _ | omega | (simp <;> omega)) _) | (refine Below.setCell ?_ (by first | exact Nat.le_refl _ | omega | (simp <;> omega)) _)))
  have hs : wa.heap.size = w.heap.size + 2 := by rw [ewa]; simp
  exact ⟨Z, wa, U, hZ, ewa, hU, ⟨by rw [hU]; exact hx.alloc _, by rw [hU]; exact hv.alloc _, hA, hs⟩, hb⟩
theorem htA (a b : Int) (h : a ≤ b) (wa w : World) (m : AirW wa w) : True := trivial
set_option maxRecDepth 100000 in
set_option maxHeartbeats 8000000 in
theorem law_HullHolds (LO HI V : Nat → Int) (r : Int) (gL : ∀ i, i < 3 → Dbl (LO i)) (gH : ∀ i, i < 3 → Dbl (HI i)) (gV : ∀ i, i < 3 → Dbl (V i)) (w : World) : Calls Try.prog 5 #[.agg #[.int .i64 (LO 0), .int .i64 (HI 0), .int .i64 (LO 1), .int .i64 (HI 1), .int .i64 (LO 2), .int .i64 (HI 2)], .agg #[.int .i64 (V 0), .int .i64 (V 1), .int .i64 (V 2)], .int .i64 r] w fun e w' => e = .returned (.bool true) ∧ Below w.heap.size w w' := by
  obtain ⟨Z, wa, U, hZ, ewa, eU, HK, hbw⟩ := hh_box LO HI V w
  have LV := Lib.hid (fun u => lives35 u)
  have FIN := Lib.hid (fun u (k : HhK LO HI V w wa u) => show Below w.heap.size w u from hbw.trans (k.m.b.mono hbw.size))
  replace HK := Lib.hid HK
  replace eU := Lib.hid (show ((w.alloc (.cells #[.int .i64 (LO 0), .int .i64 (HI 0), .int .i64 (LO 1), .int .i64 (HI 1), .int .i64 (LO 2), .int .i64 (HI 2)] 54)).alloc (.cells #[.int .i64 (V 0), .int .i64 (V 1), .int .i64 (V 2)] 55)).alloc (.cells Z 70) = U by rw [eU, ewa])
  have ewz := Lib.hid HK.out.s
  clear hbw
  replace ewa := Lib.hid ewa
  have HS := Lib.hid (fun a b c u => has_any a b c u)
  go_enter Try.func5, Try.ntmps5
  go_upto_region 2 with (fail)
  rw [eU.out]
  clear hZ eU
  go_wp2
  go_loopw [8] (fun i u => ∃ k : Nat, k ≤ 3 ∧ i = .int .i64 (k : Int) ∧ Hid (HhK LO HI V w wa u) ∧ Hid (∀ i, i < k → LO i ≤ V i ∧ V i ≤ HI i)) (fun i _ => 3 - (intOf i).toNat)
  case atStart => exact ⟨0, by omega, rfl, HK, Lib.hid (fun i hi => by omega)⟩
  case round =>
    clear HK
    obtain ⟨k, hk, rfl, HK, hU⟩ := hrel
    by_cases hlt : k < 3
    · have j1 : (k : Int) < 3 := by omega
      have j2 : IntKind.i64.wrap ((k : Int) + 1) = (k : Int) + 1 := by rw [IntKind.wrap_i64]; omega
      have x0 := (HK.out.x.one (k * 2) (sp6_v hlt)).1
      have x1 := (HK.out.x.one (k * 2 + 1) (sp6_e hlt)).1
      have v0 := (HK.out.v.one k (sp3_v hlt)).1
      have HSk := Lib.hid (HS.out (LO k) (HI k) (V k))
      have UN := Lib.hid (fun (hh : LO k ≤ V k ∧ V k ≤ HI k) i (hi : i < k + 1) => show LO i ≤ V i ∧ V i ≤ HI i from by
        by_cases e : i = k
        · subst e; exact hh
        · exact hU.out i (by omega))
      go_upto_region 5 with (fail)
      go_cut [26] from 15 to 26 (fun s u => s = .bool (!(decide (LO k ≤ V k ∧ V k ≤ HI k))) ∧ Hid (HhK LO HI V w wa u))
      case first =>
        clear UN hU HS
        refine region_moves (fun u => u.cell? ⟨w.heap.size, k * 2, none⟩ = some (.int .i64 (LO k)) ∧ u.cell? ⟨w.heap.size, k * 2 + 1, none⟩ = some (.int .i64 (HI k)) ∧ u.cell? ⟨w.heap.size + 1, k, none⟩ = some (.int .i64 (V k))) [] [(.free, 0), (.free, 1), (.take, 2), (.free, 3), (.free, 4), (.take, 5), (.step, 6), (.free, 7)] _ (by kernel_rfl) (by kernel_rfl) (by kernel_rfl) (by kernel_rfl) (by decide) rfl (fun _ _ _ _ _ h => h) ?_
        simp only [List.filterMap_cons, List.filterMap_nil, List.getElem?_toArray, List.getElem?_cons_zero, List.getElem?_cons_succ, Option.map_some]
        iterate 2
          first
            | (refine mv_free ?_ (Or.inl ⟨by rfl, ?_⟩) (⟨x0, x1, v0⟩) ?_
               rotate_left 1
               · intro u
                 go_simp
                 try simp only [q1]
                 try with_reducible rfl
               simp only [Act.put, List.setIfInBounds_toArray, List.set_cons_zero, List.set_cons_succ])
            | (refine mv_free _ (Or.inr ⟨by rfl, rfl⟩) (⟨x0, x1, v0⟩) ?_
               simp only [Act.put, List.setIfInBounds_toArray, List.set_cons_zero, List.set_cons_succ])
        iterate 1
          first
            | (refine mv_take ?_ (Or.inl ⟨by rfl, ?_⟩) (⟨x0, x1, v0⟩) ?_
               rotate_left 1
               · intro u hu
                 (try dsimp only at hu)
                 go_simp
                 try with_reducible rfl
               simp only [Act.put, List.setIfInBounds_toArray, List.set_cons_zero, List.set_cons_succ])
            | (refine mv_take _ (Or.inr ⟨by rfl, rfl⟩) (⟨x0, x1, v0⟩) ?_
               simp only [Act.put, List.setIfInBounds_toArray, List.set_cons_zero, List.set_cons_succ])
        iterate 2
          first
            | (refine mv_free ?_ (Or.inl ⟨by rfl, ?_⟩) (⟨x0, x1, v0⟩) ?_
               rotate_left 1
               · intro u
                 go_simp
                 try simp only [q1]
                 try with_reducible rfl
               simp only [Act.put, List.setIfInBounds_toArray, List.set_cons_zero, List.set_cons_succ])
            | (refine mv_free _ (Or.inr ⟨by rfl, rfl⟩) (⟨x0, x1, v0⟩) ?_
               simp only [Act.put, List.setIfInBounds_toArray, List.set_cons_zero, List.set_cons_succ])
        iterate 1
          first
            | (refine mv_take ?_ (Or.inl ⟨by rfl, ?_⟩) (⟨x0, x1, v0⟩) ?_
               rotate_left 1
               · intro u hu
                 (try dsimp only at hu)
                 go_simp
                 try with_reducible rfl
               simp only [Act.put, List.setIfInBounds_toArray, List.set_cons_zero, List.set_cons_succ])
            | (refine mv_take _ (Or.inr ⟨by rfl, rfl⟩) (⟨x0, x1, v0⟩) ?_
               simp only [Act.put, List.setIfInBounds_toArray, List.set_cons_zero, List.set_cons_succ])
        refine mv_step (fun K hK => ?_)
        go_simp
        refine (HSk.out _).mono ?_
        rintro e wz ⟨rfl, hb⟩
        replace HK := Lib.hid (HK.out.drew.bel hb)
        clear x0 x1 v0
        have x0 := (HK.out.x.one (k * 2) (sp6_v hlt)).1
        have x1 := (HK.out.x.one (k * 2 + 1) (sp6_e hlt)).1
        have v0 := (HK.out.v.one k (sp3_v hlt)).1
        go_wp2_with fail
        refine hK.out _ _ _ (fun u hu => hu) (⟨x0, x1, v0⟩) ?_
        clear hK K
        iterate 1
          first
            | (refine mv_free ?_ (Or.inl ⟨by rfl, ?_⟩) (⟨x0, x1, v0⟩) ?_
               rotate_left 1
               · intro u
                 go_simp
                 try simp only [q1]
                 try with_reducible rfl
               simp only [Act.put, List.setIfInBounds_toArray, List.set_cons_zero, List.set_cons_succ])
            | (refine mv_free _ (Or.inr ⟨by rfl, rfl⟩) (⟨x0, x1, v0⟩) ?_
               simp only [Act.put, List.setIfInBounds_toArray, List.set_cons_zero, List.set_cons_succ])
        refine mv_done ?_
        go_wp2_with fail
        go_meet
        case rel => exact ⟨by simp, HK⟩
      case rest =>
        obtain ⟨rfl, K2⟩ := hcut
        clear x0 x1 v0 HK HSk HS
        by_cases hh : LO k ≤ V k ∧ V k ≤ HI k
        · have un := Lib.hid (UN.out hh)
          rw [decide_eq_true hh]
          clear UN hh hU
          go_wp2
          go_roundw
          case rel => exact ⟨k + 1, by omega, by first | rfl | go_num, K2, un⟩
          case measure => simp [intOf] <;> omega
        · rw [decide_eq_false hh]
          clear UN hh hU
          go_wp2_with (go_at_call 16; refine (LV.out _).mono ?_; rintro e w1 ⟨rfl, hb2⟩)
          go_ret
          exact ⟨rfl, FIN.out _ (K2.out.bel hb2)⟩
    · obtain rfl : k = 3 := by omega
      have u0 := hU.out 0 (by omega)
      have u1 := hU.out 1 (by omega)
      have u2 := hU.out 2 (by omega)
      clear hU
      have es : wa.heap.size = w.heap.size + 1 + 1 := ewz.out
      have HE := fun u (m : AirW wa u) => hheights (LO 1) (HI 1) wa u m (by omega)
      have AH := fun u (m : AirW wa u) => aheightW (V 1) wa u m
      rw [es] at HE AH
      replace HE := Lib.hid HE
      replace AH := Lib.hid AH
      clear es
      have H1 := fun u => has_any (heV (HI 1)) (heV (LO 1)) (heV (V 1)) u
      rw [decide_eq_true (show heV (HI 1) ≤ heV (V 1) ∧ heV (V 1) ≤ heV (LO 1) from ⟨heV_fall u1.2, heV_fall u1.1⟩)] at H1
      replace H1 := Lib.hid H1
      have SE := Lib.hid (fun u => hspeeds (LO 0) (HI 0) (gL 0 (by omega)) (gH 0 (by omega)) (by omega) u)
      have CA := Lib.hid (fun u => scal_any (V 0) u (gV 0 (by omega)).1 (gV 0 (by omega)).2)
      have H2 := fun u => has_any (spCa (LO 0)) (spCa (HI 0)) (spCa (V 0)) u
      rw [decide_eq_true (show spCa (LO 0) ≤ spCa (V 0) ∧ spCa (V 0) ≤ spCa (HI 0) from ⟨spCa_mono u0.1, spCa_mono u0.2⟩)] at H2
      replace H2 := Lib.hid H2
      have MA := Lib.hid (fun u => hmachs (LO 0) (HI 0) (LO 1) (HI 1) (gL 0 (by omega)) (gH 0 (by omega)) (gL 1 (by omega)) (gH 1 (by omega)) (by omega) (by omega) u)
      have AT := Lib.hid (fun u => mat_any (V 0) (V 1) u (gV 0 (by omega)).1 (gV 0 (by omega)).2 (gV 1 (by omega)).1 (gV 1 (by omega)).2)
      have FA := Lib.hid (fun (g : ¬ (LO 0 < 0 ∨ LO 1 < 1)) => (⟨by have a := (maV_more (q0 := LO 0) (q1 := V 0) (p0 := V 1) (p1 := HI 1) (by omega) (by omega) (by omega) (by omega)).1; have b := (maV_more (q0 := LO 0) (q1 := V 0) (p0 := V 1) (p1 := HI 1) (by omega) (by omega) (by omega) (by omega)).2; omega, by have a := (maV_more (q0 := V 0) (q1 := HI 0) (p0 := LO 1) (p1 := V 1) (by omega) (by omega) (by omega) (by omega)).1; have b := (maV_more (q0 := V 0) (q1 := HI 0) (p0 := LO 1) (p1 := V 1) (by omega) (by omega) (by omega) (by omega)).2; omega, by unfold maB; rw [decide_eq_false (show ¬ V 1 ≤ 0 by omega), decide_eq_false (show ¬ V 0 < 0 by omega)]; rfl⟩ : maV (LO 0) (HI 1) ≤ maV (V 0) (V 1) ∧ maV (V 0) (V 1) ≤ maV (HI 0) (LO 1) ∧ maB (V 0) (V 1) = true))
      generalize maV (LO 0) (HI 1) = m0 at *
      generalize maV (HI 0) (LO 1) = m1 at *
      generalize maV (V 0) (V 1) = n at *
      generalize maB (V 0) (V 1) = nb at *
      generalize spCa (LO 0) = s0 at *
      generalize spCa (HI 0) = s1 at *
      generalize spCa (V 0) = s2 at *
      generalize heV (LO 1) = h0 at *
      generalize heV (HI 1) = h1 at *
      generalize heV (V 1) = h2 at *
      have TE := Lib.hid (fun (k : m0 ≤ m1) u => htemps (LO 2) (HI 2) m0 m1 r (by omega) k u)
      have ST := Lib.hid (fun u => hstatic_any (V 2) n r u)
      have FT := Lib.hid (fun (a : m0 ≤ n) (b : n ≤ m1) => (⟨Int.le_trans (htS_anti (LO 2) r b) (htS_mono n r u2.1), Int.le_trans (htS_anti (V 2) r a) (htS_mono m0 r u2.2)⟩ : htS (LO 2) m1 r ≤ htS (V 2) n r ∧ htS (V 2) n r ≤ htS (HI 2) m0 r))
      generalize htS (LO 2) m1 r = t0 at *
      generalize htS (HI 2) m0 r = t1 at *
      generalize htS (V 2) n r = t2 at *
      clear gL gH gV u0 u1 u2
      have hx := HK.out.xx
      obtain ⟨x0, e0⟩ := hx.one 0 rfl
      obtain ⟨x1, e1⟩ := hx.one 1 rfl
      obtain ⟨x2, e2⟩ := hx.one 2 rfl
      obtain ⟨x3, e3⟩ := hx.one 3 rfl
      obtain ⟨x4, e4⟩ := hx.one 4 rfl
      obtain ⟨x5, e5⟩ := hx.one 5 rfl
      have hv := HK.out.vv
      obtain ⟨v0, d0⟩ := hv.one 0 rfl
      obtain ⟨v1, d1⟩ := hv.one 1 rfl
      obtain ⟨v2, d2⟩ := hv.one 2 rfl
      clear hx hv
      go_upto_region 7 with (fail)
      refine region_moves (fun u => u.cell? ⟨w.heap.size, 0, none⟩ = some (.int .i64 (LO 0)) ∧ u.cell? ⟨w.heap.size, 1, none⟩ = some (.int .i64 (HI 0)) ∧ u.cell? ⟨w.heap.size, 2, none⟩ = some (.int .i64 (LO 1)) ∧ u.cell? ⟨w.heap.size, 3, none⟩ = some (.int .i64 (HI 1)) ∧ u.cell? ⟨w.heap.size, 4, none⟩ = some (.int .i64 (LO 2)) ∧ u.cell? ⟨w.heap.size, 5, none⟩ = some (.int .i64 (HI 2)) ∧ u.cell? ⟨w.heap.size + 1, 0, none⟩ = some (.int .i64 (V 0)) ∧ u.cell? ⟨w.heap.size + 1, 1, none⟩ = some (.int .i64 (V 1)) ∧ u.cell? ⟨w.heap.size + 1, 2, none⟩ = some (.int .i64 (V 2))) [] [(.free, 0), (.take, 1), (.free, 3), (.take, 4), (.step, 2), (.step, 5), (.step, 6), (.free, 7), (.free, 8), (.free, 9), (.take, 10), (.free, 12), (.take, 13), (.step, 11), (.step, 14), (.step, 15), (.free, 16), (.free, 17)] _ (by kernel_rfl) (by kernel_rfl) (by kernel_rfl) (by kernel_rfl) (by decide) rfl (fun _ _ _ _ _ h => h) ?_
      simp only [List.filterMap_cons, List.filterMap_nil, List.getElem?_toArray, List.getElem?_cons_zero, List.getElem?_cons_succ, Option.map_some]
      iterate 1
        first
          | (refine mv_free ?_ (Or.inl ⟨by rfl, ?_⟩) (⟨x0, x1, x2, x3, x4, x5, v0, v1, v2⟩) ?_
             rotate_left 1
             · intro u
               go_simp
               try simp only [q1]
               try with_reducible rfl
             simp only [Act.put, List.setIfInBounds_toArray, List.set_cons_zero, List.set_cons_succ])
          | (refine mv_free _ (Or.inr ⟨by rfl, rfl⟩) (⟨x0, x1, x2, x3, x4, x5, v0, v1, v2⟩) ?_
             simp only [Act.put, List.setIfInBounds_toArray, List.set_cons_zero, List.set_cons_succ])
      iterate 1
        first
          | (refine mv_take ?_ (Or.inl ⟨by rfl, ?_⟩) (⟨x0, x1, x2, x3, x4, x5, v0, v1, v2⟩) ?_
             rotate_left 1
             · intro u hu
               (try dsimp only at hu)
               go_simp
               try with_reducible rfl
             simp only [Act.put, List.setIfInBounds_toArray, List.set_cons_zero, List.set_cons_succ])
          | (refine mv_take _ (Or.inr ⟨by rfl, rfl⟩) (⟨x0, x1, x2, x3, x4, x5, v0, v1, v2⟩) ?_
             simp only [Act.put, List.setIfInBounds_toArray, List.set_cons_zero, List.set_cons_succ])
      iterate 1
        first
          | (refine mv_free ?_ (Or.inl ⟨by rfl, ?_⟩) (⟨x0, x1, x2, x3, x4, x5, v0, v1, v2⟩) ?_
             rotate_left 1
             · intro u
               go_simp
               try simp only [q1]
               try with_reducible rfl
             simp only [Act.put, List.setIfInBounds_toArray, List.set_cons_zero, List.set_cons_succ])
          | (refine mv_free _ (Or.inr ⟨by rfl, rfl⟩) (⟨x0, x1, x2, x3, x4, x5, v0, v1, v2⟩) ?_
             simp only [Act.put, List.setIfInBounds_toArray, List.set_cons_zero, List.set_cons_succ])
      iterate 1
        first
          | (refine mv_take ?_ (Or.inl ⟨by rfl, ?_⟩) (⟨x0, x1, x2, x3, x4, x5, v0, v1, v2⟩) ?_
             rotate_left 1
             · intro u hu
               (try dsimp only at hu)
               go_simp
               try with_reducible rfl
             simp only [Act.put, List.setIfInBounds_toArray, List.set_cons_zero, List.set_cons_succ])
          | (refine mv_take _ (Or.inr ⟨by rfl, rfl⟩) (⟨x0, x1, x2, x3, x4, x5, v0, v1, v2⟩) ?_
             simp only [Act.put, List.setIfInBounds_toArray, List.set_cons_zero, List.set_cons_succ])
      refine mv_step (fun K hK => ?_)
      go_simp
      refine (HE.out _ HK.out.drew.m).mono ?_
      rintro e wz ⟨rfl, m, ob⟩
      replace HK := Lib.hid (HK.out.drew.air m (by rw [ewz.out]; exact ob))
      clear m ob
      have tga1 : True := trivial
      clear x0 e0 x1 e1 x2 e2 x3 e3 x4 e4 x5 e5 v0 d0 v1 d1 v2 d2
      have hx := HK.out.xx
      obtain ⟨x0, e0⟩ := hx.one 0 rfl
      obtain ⟨x1, e1⟩ := hx.one 1 rfl
      obtain ⟨x2, e2⟩ := hx.one 2 rfl
      obtain ⟨x3, e3⟩ := hx.one 3 rfl
      obtain ⟨x4, e4⟩ := hx.one 4 rfl
      obtain ⟨x5, e5⟩ := hx.one 5 rfl
      have hv := HK.out.vv
      obtain ⟨v0, d0⟩ := hv.one 0 rfl
      obtain ⟨v1, d1⟩ := hv.one 1 rfl
      obtain ⟨v2, d2⟩ := hv.one 2 rfl
      clear hx hv
      have tgb1 : True := trivial
      go_wp2_with fail
      have tgc1 : True := trivial
      refine hK.out _ _ _ (fun u hu => hu) (⟨x0, x1, x2, x3, x4, x5, v0, v1, v2⟩) ?_
      clear hK K
      refine mv_step (fun K hK => ?_)
      go_simp
      refine (AH.out _ HK.out.m).mono ?_
      rintro e wz ⟨rfl, m, ob⟩
      replace HK := Lib.hid (HK.out.air m (by rw [ewz.out]; exact ob))
      clear m ob
      have tga2 : True := trivial
      clear x0 e0 x1 e1 x2 e2 x3 e3 x4 e4 x5 e5 v0 d0 v1 d1 v2 d2
      have hx := HK.out.xx
      obtain ⟨x0, e0⟩ := hx.one 0 rfl
      obtain ⟨x1, e1⟩ := hx.one 1 rfl
      obtain ⟨x2, e2⟩ := hx.one 2 rfl
      obtain ⟨x3, e3⟩ := hx.one 3 rfl
      obtain ⟨x4, e4⟩ := hx.one 4 rfl
      obtain ⟨x5, e5⟩ := hx.one 5 rfl
      have hv := HK.out.vv
      obtain ⟨v0, d0⟩ := hv.one 0 rfl
      obtain ⟨v1, d1⟩ := hv.one 1 rfl
      obtain ⟨v2, d2⟩ := hv.one 2 rfl
      clear hx hv
      have tgb2 : True := trivial
      go_wp2_with fail
      have tgc2 : True := trivial
      refine hK.out _ _ _ (fun u hu => hu) (⟨x0, x1, x2, x3, x4, x5, v0, v1, v2⟩) ?_
      clear hK K
      refine mv_step (fun K hK => ?_)
      go_simp
      refine (H1.out _).mono ?_
      rintro e wz ⟨rfl, hb⟩
      replace HK := Lib.hid (HK.out.bel hb)
      clear hb
      have tga3 : True := trivial
      clear x0 e0 x1 e1 x2 e2 x3 e3 x4 e4 x5 e5 v0 d0 v1 d1 v2 d2
      have hx := HK.out.xx
      obtain ⟨x0, e0⟩ := hx.one 0 rfl
      obtain ⟨x1, e1⟩ := hx.one 1 rfl
      obtain ⟨x2, e2⟩ := hx.one 2 rfl
      obtain ⟨x3, e3⟩ := hx.one 3 rfl
      obtain ⟨x4, e4⟩ := hx.one 4 rfl
      obtain ⟨x5, e5⟩ := hx.one 5 rfl
      have hv := HK.out.vv
      obtain ⟨v0, d0⟩ := hv.one 0 rfl
      obtain ⟨v1, d1⟩ := hv.one 1 rfl
      obtain ⟨v2, d2⟩ := hv.one 2 rfl
      clear hx hv
      have tgb3 : True := trivial
      go_wp2_with fail
      have tgc3 : True := trivial
      refine hK.out _ _ _ (fun u hu => hu) (⟨x0, x1, x2, x3, x4, x5, v0, v1, v2⟩) ?_
      clear hK K
      iterate 3
        first
          | (refine mv_free ?_ (Or.inl ⟨by rfl, ?_⟩) (⟨x0, x1, x2, x3, x4, x5, v0, v1, v2⟩) ?_
             rotate_left 1
             · intro u
               go_simp
               try simp only [q1]
               try with_reducible rfl
             simp only [Act.put, List.setIfInBounds_toArray, List.set_cons_zero, List.set_cons_succ])
          | (refine mv_free _ (Or.inr ⟨by rfl, rfl⟩) (⟨x0, x1, x2, x3, x4, x5, v0, v1, v2⟩) ?_
             simp only [Act.put, List.setIfInBounds_toArray, List.set_cons_zero, List.set_cons_succ])
      iterate 1
        first
          | (refine mv_take ?_ (Or.inl ⟨by rfl, ?_⟩) (⟨x0, x1, x2, x3, x4, x5, v0, v1, v2⟩) ?_
             rotate_left 1
             · intro u hu
               (try dsimp only at hu)
               go_simp
               try with_reducible rfl
             simp only [Act.put, List.setIfInBounds_toArray, List.set_cons_zero, List.set_cons_succ])
          | (refine mv_take _ (Or.inr ⟨by rfl, rfl⟩) (⟨x0, x1, x2, x3, x4, x5, v0, v1, v2⟩) ?_
             simp only [Act.put, List.setIfInBounds_toArray, List.set_cons_zero, List.set_cons_succ])
      iterate 1
        first
          | (refine mv_free ?_ (Or.inl ⟨by rfl, ?_⟩) (⟨x0, x1, x2, x3, x4, x5, v0, v1, v2⟩) ?_
             rotate_left 1
             · intro u
               go_simp
               try simp only [q1]
               try with_reducible rfl
             simp only [Act.put, List.setIfInBounds_toArray, List.set_cons_zero, List.set_cons_succ])
          | (refine mv_free _ (Or.inr ⟨by rfl, rfl⟩) (⟨x0, x1, x2, x3, x4, x5, v0, v1, v2⟩) ?_
             simp only [Act.put, List.setIfInBounds_toArray, List.set_cons_zero, List.set_cons_succ])
      iterate 1
        first
          | (refine mv_take ?_ (Or.inl ⟨by rfl, ?_⟩) (⟨x0, x1, x2, x3, x4, x5, v0, v1, v2⟩) ?_
             rotate_left 1
             · intro u hu
               (try dsimp only at hu)
               go_simp
               try with_reducible rfl
             simp only [Act.put, List.setIfInBounds_toArray, List.set_cons_zero, List.set_cons_succ])
          | (refine mv_take _ (Or.inr ⟨by rfl, rfl⟩) (⟨x0, x1, x2, x3, x4, x5, v0, v1, v2⟩) ?_
             simp only [Act.put, List.setIfInBounds_toArray, List.set_cons_zero, List.set_cons_succ])
      refine mv_step (fun K hK => ?_)
      go_simp
      refine (SE.out _).mono ?_
      rintro e wz ⟨rfl, hb⟩
      replace HK := Lib.hid (HK.out.bel hb)
      clear hb
      have tga4 : True := trivial
      clear x0 e0 x1 e1 x2 e2 x3 e3 x4 e4 x5 e5 v0 d0 v1 d1 v2 d2
      have hx := HK.out.xx
      obtain ⟨x0, e0⟩ := hx.one 0 rfl
      obtain ⟨x1, e1⟩ := hx.one 1 rfl
      obtain ⟨x2, e2⟩ := hx.one 2 rfl
      obtain ⟨x3, e3⟩ := hx.one 3 rfl
      obtain ⟨x4, e4⟩ := hx.one 4 rfl
      obtain ⟨x5, e5⟩ := hx.one 5 rfl
      have hv := HK.out.vv
      obtain ⟨v0, d0⟩ := hv.one 0 rfl
      obtain ⟨v1, d1⟩ := hv.one 1 rfl
      obtain ⟨v2, d2⟩ := hv.one 2 rfl
      clear hx hv
      have tgb4 : True := trivial
      go_wp2_with fail
      have tgc4 : True := trivial
      refine hK.out _ _ _ (fun u hu => hu) (⟨x0, x1, x2, x3, x4, x5, v0, v1, v2⟩) ?_
      clear hK K
      refine mv_step (fun K hK => ?_)
      go_simp
      refine (CA.out _).mono ?_
      rintro e wz ⟨rfl, hb⟩
      replace HK := Lib.hid (HK.out.bel hb)
      clear hb
      have tga5 : True := trivial
      clear x0 e0 x1 e1 x2 e2 x3 e3 x4 e4 x5 e5 v0 d0 v1 d1 v2 d2
      have hx := HK.out.xx
      obtain ⟨x0, e0⟩ := hx.one 0 rfl
      obtain ⟨x1, e1⟩ := hx.one 1 rfl
      obtain ⟨x2, e2⟩ := hx.one 2 rfl
      obtain ⟨x3, e3⟩ := hx.one 3 rfl
      obtain ⟨x4, e4⟩ := hx.one 4 rfl
      obtain ⟨x5, e5⟩ := hx.one 5 rfl
      have hv := HK.out.vv
      obtain ⟨v0, d0⟩ := hv.one 0 rfl
      obtain ⟨v1, d1⟩ := hv.one 1 rfl
      obtain ⟨v2, d2⟩ := hv.one 2 rfl
      clear hx hv
      have tgb5 : True := trivial
      go_wp2_with fail
      have tgc5 : True := trivial
      refine hK.out _ _ _ (fun u hu => hu) (⟨x0, x1, x2, x3, x4, x5, v0, v1, v2⟩) ?_
      clear hK K
      refine mv_step (fun K hK => ?_)
      go_simp
      refine (H2.out _).mono ?_
      rintro e wz ⟨rfl, hb⟩
      replace HK := Lib.hid (HK.out.bel hb)
      clear hb
      have tga6 : True := trivial
      clear x0 e0 x1 e1 x2 e2 x3 e3 x4 e4 x5 e5 v0 d0 v1 d1 v2 d2
      have hx := HK.out.xx
      obtain ⟨x0, e0⟩ := hx.one 0 rfl
      obtain ⟨x1, e1⟩ := hx.one 1 rfl
      obtain ⟨x2, e2⟩ := hx.one 2 rfl
      obtain ⟨x3, e3⟩ := hx.one 3 rfl
      obtain ⟨x4, e4⟩ := hx.one 4 rfl
      obtain ⟨x5, e5⟩ := hx.one 5 rfl
      have hv := HK.out.vv
      obtain ⟨v0, d0⟩ := hv.one 0 rfl
      obtain ⟨v1, d1⟩ := hv.one 1 rfl
      obtain ⟨v2, d2⟩ := hv.one 2 rfl
      clear hx hv
      have tgb6 : True := trivial
      go_wp2_with fail
      have tgc6 : True := trivial
      refine hK.out _ _ _ (fun u hu => hu) (⟨x0, x1, x2, x3, x4, x5, v0, v1, v2⟩) ?_
      clear hK K
      iterate 2
        first
          | (refine mv_free ?_ (Or.inl ⟨by rfl, ?_⟩) (⟨x0, x1, x2, x3, x4, x5, v0, v1, v2⟩) ?_
             rotate_left 1
             · intro u
               go_simp
               try simp only [q1]
               try with_reducible rfl
             simp only [Act.put, List.setIfInBounds_toArray, List.set_cons_zero, List.set_cons_succ])
          | (refine mv_free _ (Or.inr ⟨by rfl, rfl⟩) (⟨x0, x1, x2, x3, x4, x5, v0, v1, v2⟩) ?_
             simp only [Act.put, List.setIfInBounds_toArray, List.set_cons_zero, List.set_cons_succ])
      refine mv_done ?_
      by_cases hg : LO 0 < 0 ∨ LO 1 < 1
      · have MAp := fun u => MA.out u
        simp only [if_pos hg] at MAp
        replace MAp := Lib.hid MAp
        clear MA FA TE FT
        go_wp2_with fail
        refine (MAp.out _).mono ?_
        rintro e wz ⟨rfl, hb⟩
        replace HK := Lib.hid (HK.out.bel hb)
        clear hb
        clear x0 e0 x1 e1 x2 e2 x3 e3 x4 e4 x5 e5 v0 d0 v1 d1 v2 d2
        have hx := HK.out.xx
        obtain ⟨x0, e0⟩ := hx.one 0 rfl
        obtain ⟨x1, e1⟩ := hx.one 1 rfl
        obtain ⟨x2, e2⟩ := hx.one 2 rfl
        obtain ⟨x3, e3⟩ := hx.one 3 rfl
        obtain ⟨x4, e4⟩ := hx.one 4 rfl
        obtain ⟨x5, e5⟩ := hx.one 5 rfl
        have hv := HK.out.vv
        obtain ⟨v0, d0⟩ := hv.one 0 rfl
        obtain ⟨v1, d1⟩ := hv.one 1 rfl
        obtain ⟨v2, d2⟩ := hv.one 2 rfl
        clear hx hv
        go_upto_region 10 with (fail)
        obtain ⟨U9, eU9, b9, h9⟩ : ∃ U9, wz.alloc (.cells #[.int .i64 0, .int .i64 0] 53) = U9 ∧ Below wz.heap.size wz U9 ∧ Held wz.heap.size [.int .i64 0, .int .i64 0] U9 := ⟨_, rfl, (Below.refl _ _).alloc (Nat.le_refl _) _, Held.new wz [.int .i64 0, .int .i64 0] _⟩
        rw [eU9]
        replace HK := Lib.hid (HK.out.bel b9)
        obtain ⟨g9, eg9⟩ : ∃ g, wz.heap.size = g := ⟨_, rfl⟩
        rw [eg9] at h9 ⊢
        have HM := Lib.hid h9
        clear eg9 eU9 b9 h9
        clear x0 e0 x1 e1 x2 e2 x3 e3 x4 e4 x5 e5 v0 d0 v1 d1 v2 d2
        have hx := HK.out.xx
        obtain ⟨x0, e0⟩ := hx.one 0 rfl
        obtain ⟨x1, e1⟩ := hx.one 1 rfl
        obtain ⟨x2, e2⟩ := hx.one 2 rfl
        obtain ⟨x3, e3⟩ := hx.one 3 rfl
        obtain ⟨x4, e4⟩ := hx.one 4 rfl
        obtain ⟨x5, e5⟩ := hx.one 5 rfl
        have hv := HK.out.vv
        obtain ⟨v0, d0⟩ := hv.one 0 rfl
        obtain ⟨v1, d1⟩ := hv.one 1 rfl
        obtain ⟨v2, d2⟩ := hv.one 2 rfl
        clear hx hv
        have hq := HM.out
        obtain ⟨s0, u0⟩ := hq.one 0 rfl
        obtain ⟨s1, u1⟩ := hq.one 1 rfl
        clear hq
        go_wp2_with fail
        refine (AT.out _).mono ?_
        rintro e wz ⟨rfl, hb⟩
        replace HK := Lib.hid (HK.out.bel hb)
        replace HM := Lib.hid (HM.out.bel hb)
        clear hb
        clear x0 e0 x1 e1 x2 e2 x3 e3 x4 e4 x5 e5 v0 d0 v1 d1 v2 d2
        have hx := HK.out.xx
        obtain ⟨x0, e0⟩ := hx.one 0 rfl
        obtain ⟨x1, e1⟩ := hx.one 1 rfl
        obtain ⟨x2, e2⟩ := hx.one 2 rfl
        obtain ⟨x3, e3⟩ := hx.one 3 rfl
        obtain ⟨x4, e4⟩ := hx.one 4 rfl
        obtain ⟨x5, e5⟩ := hx.one 5 rfl
        have hv := HK.out.vv
        obtain ⟨v0, d0⟩ := hv.one 0 rfl
        obtain ⟨v1, d1⟩ := hv.one 1 rfl
        obtain ⟨v2, d2⟩ := hv.one 2 rfl
        clear hx hv
        clear s0 u0 s1 u1
        have hq := HM.out
        obtain ⟨s0, u0⟩ := hq.one 0 rfl
        obtain ⟨s1, u1⟩ := hq.one 1 rfl
        clear hq
        go_wp2_with fail
        refine (LV.out _).mono ?_
        rintro e wz ⟨rfl, hb⟩
        replace HK := Lib.hid (HK.out.bel hb)
        replace HM := Lib.hid (HM.out.bel hb)
        clear hb
        clear x0 e0 x1 e1 x2 e2 x3 e3 x4 e4 x5 e5 v0 d0 v1 d1 v2 d2
        have hx := HK.out.xx
        obtain ⟨x0, e0⟩ := hx.one 0 rfl
        obtain ⟨x1, e1⟩ := hx.one 1 rfl
        obtain ⟨x2, e2⟩ := hx.one 2 rfl
        obtain ⟨x3, e3⟩ := hx.one 3 rfl
        obtain ⟨x4, e4⟩ := hx.one 4 rfl
        obtain ⟨x5, e5⟩ := hx.one 5 rfl
        have hv := HK.out.vv
        obtain ⟨v0, d0⟩ := hv.one 0 rfl
        obtain ⟨v1, d1⟩ := hv.one 1 rfl
        obtain ⟨v2, d2⟩ := hv.one 2 rfl
        clear hx hv
        clear s0 u0 s1 u1
        have hq := HM.out
        obtain ⟨s0, u0⟩ := hq.one 0 rfl
        obtain ⟨s1, u1⟩ := hq.one 1 rfl
        clear hq
        go_wp2
        go_ret
        exact ⟨rfl, FIN.out _ HK.out⟩
      · have MAp := fun u => MA.out u
        simp only [if_neg hg] at MAp
        replace MAp := Lib.hid MAp
        obtain ⟨f1, f2, f3⟩ := FA.out hg
        subst f3
        have TEp := Lib.hid (TE.out (by omega))
        obtain ⟨f4, f5⟩ := FT.out f1 f2
        have H3 := fun u => has_any m0 m1 n u
        rw [decide_eq_true (show m0 ≤ n ∧ n ≤ m1 from ⟨f1, f2⟩)] at H3
        replace H3 := Lib.hid H3
        have H4 := fun u => has_any t0 t1 t2 u
        rw [decide_eq_true (show t0 ≤ t2 ∧ t2 ≤ t1 from ⟨f4, f5⟩)] at H4
        replace H4 := Lib.hid H4
        have TR := Lib.hid (fun u => htrues m0 m1 t0 t1 (by omega) (by omega) u)
        have TS := Lib.hid (fun u => strue_any n t2 u)
        have H5 := fun u => has_any (spTr m0 t0) (spTr m1 t1) (spTr n t2) u
        rw [decide_eq_true (show spTr m0 t0 ≤ spTr n t2 ∧ spTr n t2 ≤ spTr m1 t1 from ⟨(spTr_mono f1 f4).1, (spTr_mono f2 f5).1⟩)] at H5
        replace H5 := Lib.hid H5
        generalize spTr m0 t0 = z0 at *
        generalize spTr m1 t1 = z1 at *
        generalize spTr n t2 = z2 at *
        clear MA FA TE FT f1 f2 f4 f5 hg
        go_wp2_with fail
        refine (MAp.out _).mono ?_
        rintro e wz ⟨rfl, hb⟩
        replace HK := Lib.hid (HK.out.bel hb)
        clear hb
        clear x0 e0 x1 e1 x2 e2 x3 e3 x4 e4 x5 e5 v0 d0 v1 d1 v2 d2
        have hx := HK.out.xx
        obtain ⟨x0, e0⟩ := hx.one 0 rfl
        obtain ⟨x1, e1⟩ := hx.one 1 rfl
        obtain ⟨x2, e2⟩ := hx.one 2 rfl
        obtain ⟨x3, e3⟩ := hx.one 3 rfl
        obtain ⟨x4, e4⟩ := hx.one 4 rfl
        obtain ⟨x5, e5⟩ := hx.one 5 rfl
        have hv := HK.out.vv
        obtain ⟨v0, d0⟩ := hv.one 0 rfl
        obtain ⟨v1, d1⟩ := hv.one 1 rfl
        obtain ⟨v2, d2⟩ := hv.one 2 rfl
        clear hx hv
        go_upto_region 10 with (fail)
        obtain ⟨U9, eU9, b9, h9⟩ : ∃ U9, wz.alloc (.cells #[.int .i64 m0, .int .i64 m1] 53) = U9 ∧ Below wz.heap.size wz U9 ∧ Held wz.heap.size [.int .i64 m0, .int .i64 m1] U9 := ⟨_, rfl, (Below.refl _ _).alloc (Nat.le_refl _) _, Held.new wz [.int .i64 m0, .int .i64 m1] _⟩
        rw [eU9]
        replace HK := Lib.hid (HK.out.bel b9)
        obtain ⟨g9, eg9⟩ : ∃ g, wz.heap.size = g := ⟨_, rfl⟩
        rw [eg9] at h9 ⊢
        have HM := Lib.hid h9
        clear eg9 eU9 b9 h9
        clear x0 e0 x1 e1 x2 e2 x3 e3 x4 e4 x5 e5 v0 d0 v1 d1 v2 d2
        have hx := HK.out.xx
        obtain ⟨x0, e0⟩ := hx.one 0 rfl
        obtain ⟨x1, e1⟩ := hx.one 1 rfl
        obtain ⟨x2, e2⟩ := hx.one 2 rfl
        obtain ⟨x3, e3⟩ := hx.one 3 rfl
        obtain ⟨x4, e4⟩ := hx.one 4 rfl
        obtain ⟨x5, e5⟩ := hx.one 5 rfl
        have hv := HK.out.vv
        obtain ⟨v0, d0⟩ := hv.one 0 rfl
        obtain ⟨v1, d1⟩ := hv.one 1 rfl
        obtain ⟨v2, d2⟩ := hv.one 2 rfl
        clear hx hv
        have hq := HM.out
        obtain ⟨s0, u0⟩ := hq.one 0 rfl
        obtain ⟨s1, u1⟩ := hq.one 1 rfl
        clear hq
        go_wp2_with fail
        refine (AT.out _).mono ?_
        rintro e wz ⟨rfl, hb⟩
        replace HK := Lib.hid (HK.out.bel hb)
        replace HM := Lib.hid (HM.out.bel hb)
        clear hb
        clear x0 e0 x1 e1 x2 e2 x3 e3 x4 e4 x5 e5 v0 d0 v1 d1 v2 d2
        have hx := HK.out.xx
        obtain ⟨x0, e0⟩ := hx.one 0 rfl
        obtain ⟨x1, e1⟩ := hx.one 1 rfl
        obtain ⟨x2, e2⟩ := hx.one 2 rfl
        obtain ⟨x3, e3⟩ := hx.one 3 rfl
        obtain ⟨x4, e4⟩ := hx.one 4 rfl
        obtain ⟨x5, e5⟩ := hx.one 5 rfl
        have hv := HK.out.vv
        obtain ⟨v0, d0⟩ := hv.one 0 rfl
        obtain ⟨v1, d1⟩ := hv.one 1 rfl
        obtain ⟨v2, d2⟩ := hv.one 2 rfl
        clear hx hv
        clear s0 u0 s1 u1
        have hq := HM.out
        obtain ⟨s0, u0⟩ := hq.one 0 rfl
        obtain ⟨s1, u1⟩ := hq.one 1 rfl
        clear hq
        go_wp2_with fail
        refine (H3.out _).mono ?_
        rintro e wz ⟨rfl, hb⟩
        replace HK := Lib.hid (HK.out.bel hb)
        replace HM := Lib.hid (HM.out.bel hb)
        clear hb
        clear x0 e0 x1 e1 x2 e2 x3 e3 x4 e4 x5 e5 v0 d0 v1 d1 v2 d2
        have hx := HK.out.xx
        obtain ⟨x0, e0⟩ := hx.one 0 rfl
        obtain ⟨x1, e1⟩ := hx.one 1 rfl
        obtain ⟨x2, e2⟩ := hx.one 2 rfl
        obtain ⟨x3, e3⟩ := hx.one 3 rfl
        obtain ⟨x4, e4⟩ := hx.one 4 rfl
        obtain ⟨x5, e5⟩ := hx.one 5 rfl
        have hv := HK.out.vv
        obtain ⟨v0, d0⟩ := hv.one 0 rfl
        obtain ⟨v1, d1⟩ := hv.one 1 rfl
        obtain ⟨v2, d2⟩ := hv.one 2 rfl
        clear hx hv
        clear s0 u0 s1 u1
        have hq := HM.out
        obtain ⟨s0, u0⟩ := hq.one 0 rfl
        obtain ⟨s1, u1⟩ := hq.one 1 rfl
        clear hq
        go_wp2_with fail
        refine (TEp.out _).mono ?_
        rintro e wz ⟨rfl, hb⟩
        replace HK := Lib.hid (HK.out.bel hb)
        replace HM := Lib.hid (HM.out.bel hb)
        clear hb
        clear x0 e0 x1 e1 x2 e2 x3 e3 x4 e4 x5 e5 v0 d0 v1 d1 v2 d2
        have hx := HK.out.xx
        obtain ⟨x0, e0⟩ := hx.one 0 rfl
        obtain ⟨x1, e1⟩ := hx.one 1 rfl
        obtain ⟨x2, e2⟩ := hx.one 2 rfl
        obtain ⟨x3, e3⟩ := hx.one 3 rfl
        obtain ⟨x4, e4⟩ := hx.one 4 rfl
        obtain ⟨x5, e5⟩ := hx.one 5 rfl
        have hv := HK.out.vv
        obtain ⟨v0, d0⟩ := hv.one 0 rfl
        obtain ⟨v1, d1⟩ := hv.one 1 rfl
        obtain ⟨v2, d2⟩ := hv.one 2 rfl
        clear hx hv
        clear s0 u0 s1 u1
        have hq := HM.out
        obtain ⟨s0, u0⟩ := hq.one 0 rfl
        obtain ⟨s1, u1⟩ := hq.one 1 rfl
        clear hq
        go_upto_region 16 with (fail)
        obtain ⟨U9, eU9, b9, h9⟩ : ∃ U9, wz.alloc (.cells #[.int .i64 t0, .int .i64 t1] 53) = U9 ∧ Below wz.heap.size wz U9 ∧ Held wz.heap.size [.int .i64 t0, .int .i64 t1] U9 := ⟨_, rfl, (Below.refl _ _).alloc (Nat.le_refl _) _, Held.new wz [.int .i64 t0, .int .i64 t1] _⟩
        rw [eU9]
        replace HK := Lib.hid (HK.out.bel b9)
        replace HM := Lib.hid (HM.out.bel b9)
        obtain ⟨g13, eg9⟩ : ∃ g, wz.heap.size = g := ⟨_, rfl⟩
        rw [eg9] at h9 ⊢
        have HT := Lib.hid h9
        clear eg9 eU9 b9 h9
        clear x0 e0 x1 e1 x2 e2 x3 e3 x4 e4 x5 e5 v0 d0 v1 d1 v2 d2
        have hx := HK.out.xx
        obtain ⟨x0, e0⟩ := hx.one 0 rfl
        obtain ⟨x1, e1⟩ := hx.one 1 rfl
        obtain ⟨x2, e2⟩ := hx.one 2 rfl
        obtain ⟨x3, e3⟩ := hx.one 3 rfl
        obtain ⟨x4, e4⟩ := hx.one 4 rfl
        obtain ⟨x5, e5⟩ := hx.one 5 rfl
        have hv := HK.out.vv
        obtain ⟨v0, d0⟩ := hv.one 0 rfl
        obtain ⟨v1, d1⟩ := hv.one 1 rfl
        obtain ⟨v2, d2⟩ := hv.one 2 rfl
        clear hx hv
        clear s0 u0 s1 u1
        have hq := HM.out
        obtain ⟨s0, u0⟩ := hq.one 0 rfl
        obtain ⟨s1, u1⟩ := hq.one 1 rfl
        clear hq
        have hq := HT.out
        obtain ⟨p0, q0⟩ := hq.one 0 rfl
        obtain ⟨p1, q1⟩ := hq.one 1 rfl
        clear hq
        go_wp2_with fail
        refine (ST.out _).mono ?_
        rintro e wz ⟨rfl, hb⟩
        replace HK := Lib.hid (HK.out.bel hb)
        replace HM := Lib.hid (HM.out.bel hb)
        replace HT := Lib.hid (HT.out.bel hb)
        clear hb
        clear x0 e0 x1 e1 x2 e2 x3 e3 x4 e4 x5 e5 v0 d0 v1 d1 v2 d2
        have hx := HK.out.xx
        obtain ⟨x0, e0⟩ := hx.one 0 rfl
        obtain ⟨x1, e1⟩ := hx.one 1 rfl
        obtain ⟨x2, e2⟩ := hx.one 2 rfl
        obtain ⟨x3, e3⟩ := hx.one 3 rfl
        obtain ⟨x4, e4⟩ := hx.one 4 rfl
        obtain ⟨x5, e5⟩ := hx.one 5 rfl
        have hv := HK.out.vv
        obtain ⟨v0, d0⟩ := hv.one 0 rfl
        obtain ⟨v1, d1⟩ := hv.one 1 rfl
        obtain ⟨v2, d2⟩ := hv.one 2 rfl
        clear hx hv
        clear s0 u0 s1 u1
        have hq := HM.out
        obtain ⟨s0, u0⟩ := hq.one 0 rfl
        obtain ⟨s1, u1⟩ := hq.one 1 rfl
        clear hq
        clear p0 q0 p1 q1
        have hq := HT.out
        obtain ⟨p0, q0⟩ := hq.one 0 rfl
        obtain ⟨p1, q1⟩ := hq.one 1 rfl
        clear hq
        go_wp2_with fail
        refine (H4.out _).mono ?_
        rintro e wz ⟨rfl, hb⟩
        replace HK := Lib.hid (HK.out.bel hb)
        replace HM := Lib.hid (HM.out.bel hb)
        replace HT := Lib.hid (HT.out.bel hb)
        clear hb
        clear x0 e0 x1 e1 x2 e2 x3 e3 x4 e4 x5 e5 v0 d0 v1 d1 v2 d2
        have hx := HK.out.xx
        obtain ⟨x0, e0⟩ := hx.one 0 rfl
        obtain ⟨x1, e1⟩ := hx.one 1 rfl
        obtain ⟨x2, e2⟩ := hx.one 2 rfl
        obtain ⟨x3, e3⟩ := hx.one 3 rfl
        obtain ⟨x4, e4⟩ := hx.one 4 rfl
        obtain ⟨x5, e5⟩ := hx.one 5 rfl
        have hv := HK.out.vv
        obtain ⟨v0, d0⟩ := hv.one 0 rfl
        obtain ⟨v1, d1⟩ := hv.one 1 rfl
        obtain ⟨v2, d2⟩ := hv.one 2 rfl
        clear hx hv
        clear s0 u0 s1 u1
        have hq := HM.out
        obtain ⟨s0, u0⟩ := hq.one 0 rfl
        obtain ⟨s1, u1⟩ := hq.one 1 rfl
        clear hq
        clear p0 q0 p1 q1
        have hq := HT.out
        obtain ⟨p0, q0⟩ := hq.one 0 rfl
        obtain ⟨p1, q1⟩ := hq.one 1 rfl
        clear hq
        go_wp2_with fail
        refine (TR.out _).mono ?_
        rintro e wz ⟨rfl, hb⟩
        replace HK := Lib.hid (HK.out.bel hb)
        replace HM := Lib.hid (HM.out.bel hb)
        replace HT := Lib.hid (HT.out.bel hb)
        clear hb
        clear x0 e0 x1 e1 x2 e2 x3 e3 x4 e4 x5 e5 v0 d0 v1 d1 v2 d2
        have hx := HK.out.xx
        obtain ⟨x0, e0⟩ := hx.one 0 rfl
        obtain ⟨x1, e1⟩ := hx.one 1 rfl
        obtain ⟨x2, e2⟩ := hx.one 2 rfl
        obtain ⟨x3, e3⟩ := hx.one 3 rfl
        obtain ⟨x4, e4⟩ := hx.one 4 rfl
        obtain ⟨x5, e5⟩ := hx.one 5 rfl
        have hv := HK.out.vv
        obtain ⟨v0, d0⟩ := hv.one 0 rfl
        obtain ⟨v1, d1⟩ := hv.one 1 rfl
        obtain ⟨v2, d2⟩ := hv.one 2 rfl
        clear hx hv
        clear s0 u0 s1 u1
        have hq := HM.out
        obtain ⟨s0, u0⟩ := hq.one 0 rfl
        obtain ⟨s1, u1⟩ := hq.one 1 rfl
        clear hq
        clear p0 q0 p1 q1
        have hq := HT.out
        obtain ⟨p0, q0⟩ := hq.one 0 rfl
        obtain ⟨p1, q1⟩ := hq.one 1 rfl
        clear hq
        go_wp2_with fail
        refine (TS.out _).mono ?_
        rintro e wz ⟨rfl, rfl⟩
        go_wp2_with fail
        refine (H5.out _).mono ?_
        rintro e wz ⟨rfl, hb⟩
        replace HK := Lib.hid (HK.out.bel hb)
        replace HM := Lib.hid (HM.out.bel hb)
        replace HT := Lib.hid (HT.out.bel hb)
        clear hb
        clear x0 e0 x1 e1 x2 e2 x3 e3 x4 e4 x5 e5 v0 d0 v1 d1 v2 d2
        have hx := HK.out.xx
        obtain ⟨x0, e0⟩ := hx.one 0 rfl
        obtain ⟨x1, e1⟩ := hx.one 1 rfl
        obtain ⟨x2, e2⟩ := hx.one 2 rfl
        obtain ⟨x3, e3⟩ := hx.one 3 rfl
        obtain ⟨x4, e4⟩ := hx.one 4 rfl
        obtain ⟨x5, e5⟩ := hx.one 5 rfl
        have hv := HK.out.vv
        obtain ⟨v0, d0⟩ := hv.one 0 rfl
        obtain ⟨v1, d1⟩ := hv.one 1 rfl
        obtain ⟨v2, d2⟩ := hv.one 2 rfl
        clear hx hv
        clear s0 u0 s1 u1
        have hq := HM.out
        obtain ⟨s0, u0⟩ := hq.one 0 rfl
        obtain ⟨s1, u1⟩ := hq.one 1 rfl
        clear hq
        clear p0 q0 p1 q1
        have hq := HT.out
        obtain ⟨p0, q0⟩ := hq.one 0 rfl
        obtain ⟨p1, q1⟩ := hq.one 1 rfl
        clear hq
        go_wp2_with fail
        refine (LV.out _).mono ?_
        rintro e wz ⟨rfl, hb⟩
        replace HK := Lib.hid (HK.out.bel hb)
        replace HM := Lib.hid (HM.out.bel hb)
        replace HT := Lib.hid (HT.out.bel hb)
        clear hb
        clear x0 e0 x1 e1 x2 e2 x3 e3 x4 e4 x5 e5 v0 d0 v1 d1 v2 d2
        have hx := HK.out.xx
        obtain ⟨x0, e0⟩ := hx.one 0 rfl
        obtain ⟨x1, e1⟩ := hx.one 1 rfl
        obtain ⟨x2, e2⟩ := hx.one 2 rfl
        obtain ⟨x3, e3⟩ := hx.one 3 rfl
        obtain ⟨x4, e4⟩ := hx.one 4 rfl
        obtain ⟨x5, e5⟩ := hx.one 5 rfl
        have hv := HK.out.vv
        obtain ⟨v0, d0⟩ := hv.one 0 rfl
        obtain ⟨v1, d1⟩ := hv.one 1 rfl
        obtain ⟨v2, d2⟩ := hv.one 2 rfl
        clear hx hv
        clear s0 u0 s1 u1
        have hq := HM.out
        obtain ⟨s0, u0⟩ := hq.one 0 rfl
        obtain ⟨s1, u1⟩ := hq.one 1 rfl
        clear hq
        clear p0 q0 p1 q1
        have hq := HT.out
        obtain ⟨p0, q0⟩ := hq.one 0 rfl
        obtain ⟨p1, q1⟩ := hq.one 1 rfl
        clear hq
        go_wp2
        go_ret
        exact ⟨rfl, FIN.out _ HK.out⟩
end Go.Proofs.Ytecpmffmmiogfaa
