/- Package aoa: which vanes may be, what turning adds, the angle of the craft; the document's; walked. -/
import Derived.Test.YtnfbfggkbpobiaaCurveF
import Derived.Test.YtnfbfggkbpobiaaClip09
import Derived.Test.YtnfbfggkbpobiaaCurve8a
import Derived.Test.YtnfbfggkbpobiaaPair
namespace Go.Proofs.Ytnfbfggkbpobiaa
open Go.ChangeShapes Go.WideShapes Go.ChangeAt Go.RowKit
set_option linter.unusedVariables false
set_option linter.unusedSimpArgs false

def rngB (n a b : Int) : Bool := decide (a ≤ n) && decide (n ≤ b)
theorem rngB_at {n a b : Int} (h : rngB n a b = true) : a ≤ n ∧ n ≤ b := by unfold rngB at h; simpa using h
theorem rngB_no {n a b : Int} (h : rngB n a b = false) : n < a ∨ (a ≤ n ∧ b < n) := by
  unfold rngB at h
  simp at h
  by_cases e : a ≤ n
  · exact .inr ⟨e, h e⟩
  · exact .inl (by omega)
def agB (X Y : List Int) (tau arm sh : Int) : Bool := rgtB X Y && (rngB tau 0 90000 && (rngB arm 0 100000 && rngB sh 0 16))
theorem agB_at {X Y : List Int} {tau arm sh : Int} (h : agB X Y tau arm sh = true) : rgtB X Y = true ∧ (0 ≤ tau ∧ tau ≤ 90000) ∧ (0 ≤ arm ∧ arm ≤ 100000) ∧ 0 ≤ sh ∧ sh ≤ 16 := by
  unfold agB at h
  simp only [Bool.and_eq_true] at h
  exact ⟨h.1, rngB_at h.2.1, rngB_at h.2.2.1, rngB_at h.2.2.2⟩
/-- An angle within its bounds. -/
def clA (t : Int) : Int := min (max t (-90000)) 90000
theorem clA_bd (t : Int) : -90000 ≤ clA t ∧ clA t ≤ 90000 := by unfold clA; omega
def tuV (rate speed arm : Int) : Int := fitV (min (max rate (-100000)) 100000) arm (max speed 1000)
theorem tuV_bd (a b c : Int) : -1099511627775 ≤ tuV a b c ∧ tuV a b c ≤ 1099511627775 := by unfold tuV fitV; omega
noncomputable def trV (X Y : List Int) (arm v rate speed : Int) : Int := clA (crF X Y (clA v) + tuV rate speed arm)

set_option maxHeartbeats 1000000 in
theorem aclip_any (t : Int) (w : World) : Calls Try.prog 72 #[.int .i64 t] w fun e w' => e = .returned (.int .i64 (clA t)) ∧ Below w.heap.size w w' := by
  go_enter Try.func72, Try.ntmps72
  go_wp2
  go_ret
  exact ⟨ret_int (by first | rfl | (unfold clA; omega)), Below.refl _ _⟩
theorem c09b (t a b : Int) (hab : a ≤ b) (w : World) : Calls Try.prog 64 #[.int .i64 t, .int .i64 a, .int .i64 b] w fun e w' => e = .returned (.int .i64 (c09 t a b)) ∧ Below w.heap.size w w' :=
  (c09_any t a b hab w).mono (by rintro e w1 ⟨h, rfl⟩; exact ⟨h, Below.refl _ _⟩)
theorem van_box (w : World) (ax ay : Option Addr) (cx cy : Nat) (X Y : List Int) (tau arm sh : Int) : ∃ V, V = (w.alloc (.cells #[.slice ax X.length cx, .slice ay Y.length cy, .int .i64 tau, .int .i64 arm, .int .i64 sh] 65)) ∧ Below w.heap.size w V ∧ V.heap.size = w.heap.size + 1 ∧ ∀ u, Below (w.heap.size + 1) V u → u.cell? ⟨w.heap.size, 0, none⟩ = some (.slice ax X.length cx) ∧ u.cell? ⟨w.heap.size, 1, none⟩ = some (.slice ay Y.length cy) ∧ u.cell? ⟨w.heap.size, 2, none⟩ = some (.int .i64 tau) ∧ u.cell? ⟨w.heap.size, 3, none⟩ = some (.int .i64 arm) ∧ u.cell? ⟨w.heap.size, 4, none⟩ = some (.int .i64 sh) :=
  ⟨_, rfl, (by repeat (first | exact Below.refl _ _ | assumption | apply Below.drew | apply below_drewN | (refine Below.alloc ?_ (by first | exact Nat.le_refl _ | omega | (simp <;> omega)) _) | (refine Below.setCell ?_ (by first | exact Nat.le_refl _ | omega | (simp <;> omega)) _))), by simp, fun u hu => ⟨(bc hu (by omega)).trans (by go_simp), (bc hu (by omega)).trans (by go_simp), (bc hu (by omega)).trans (by go_simp), (bc hu (by omega)).trans (by go_simp), (bc hu (by omega)).trans (by go_simp)⟩⟩
set_option maxRecDepth 100000 in
set_option maxHeartbeats 8000000 in
theorem aright_any (ax ay : Option Addr) (cx cy : Nat) (X Y : List Int) (tau arm sh : Int) (w : World) (hx : RowIs .i64 w ax X) (hy : RowIs .i64 w ay Y) (hX : X.length ≤ 300) (hY : Y.length ≤ 300) :
    Calls Try.prog 69 #[.agg #[.slice ax X.length cx, .slice ay Y.length cy, .int .i64 tau, .int .i64 arm, .int .i64 sh]] w fun e w' => e = .returned (.bool (agB X Y tau arm sh)) ∧ Below w.heap.size w w' := by
  obtain ⟨V, eV, hb0, hz, hcs⟩ := van_box w ax ay cx cy X Y tau arm sh
  have RT := fun u (h : Below (w.heap.size + 1) V u) => cright_any ax ay cx cy X Y u (hx.below (hb0.trans (h.mono (by omega)))) (hy.below (hb0.trans (h.mono (by omega)))) hX hY
  unfold agB
  clear hx hy hX hY
  generalize rgtB X Y = r at *
  replace RT := Lib.hid RT
  replace hb0 := Lib.hid hb0
  replace hz := Lib.hid hz
  replace hcs := Lib.hid hcs
  replace eV := Lib.hid eV
  cases r
  · rw [Bool.false_and]
    go_enter Try.func69, Try.ntmps69
    go_wp2_with fail
    rw [← eV.out]
    obtain ⟨k0, k1, k2, k3, k4⟩ := hcs.out _ (Below.refl _ _)
    go_wp2_with fail
    refine (RT.out _ (Below.refl _ _)).mono ?_
    rintro e w1 ⟨rfl, hb1⟩
    have hb1 := (Below.refl (w.heap.size + 1) V).trans (hb1.mono (Nat.le_of_eq hz.out.symm))
    obtain ⟨k0, k1, k2, k3, k4⟩ := hcs.out _ hb1
    go_wp2
    go_ret
    exact ⟨ret_bool (by first | rfl | (simp; omega)), hb0.out.trans (hb1.mono (by omega))⟩
  · rw [Bool.true_and]
    cases h0 : rngB tau 0 90000
    · rw [Bool.false_and]
      rcases rngB_no h0 with g | ⟨g, g'⟩
      all_goals
        clear h0
        go_enter Try.func69, Try.ntmps69
        go_wp2_with fail
        rw [← eV.out]
        obtain ⟨k0, k1, k2, k3, k4⟩ := hcs.out _ (Below.refl _ _)
        go_wp2_with fail
        refine (RT.out _ (Below.refl _ _)).mono ?_
        rintro e w1 ⟨rfl, hb1⟩
        have hb1 := (Below.refl (w.heap.size + 1) V).trans (hb1.mono (Nat.le_of_eq hz.out.symm))
        obtain ⟨k0, k1, k2, k3, k4⟩ := hcs.out _ hb1
        go_wp2
        go_ret
        exact ⟨ret_bool (by first | rfl | (simp; omega)), hb0.out.trans (hb1.mono (by omega))⟩
    · rw [Bool.true_and]
      obtain ⟨a0, b0⟩ := rngB_at h0
      clear h0
      cases h1 : rngB arm 0 100000
      · rw [Bool.false_and]
        rcases rngB_no h1 with g | ⟨g, g'⟩
        all_goals
          clear h1
          go_enter Try.func69, Try.ntmps69
          go_wp2_with fail
          rw [← eV.out]
          obtain ⟨k0, k1, k2, k3, k4⟩ := hcs.out _ (Below.refl _ _)
          go_wp2_with fail
          refine (RT.out _ (Below.refl _ _)).mono ?_
          rintro e w1 ⟨rfl, hb1⟩
          have hb1 := (Below.refl (w.heap.size + 1) V).trans (hb1.mono (Nat.le_of_eq hz.out.symm))
          obtain ⟨k0, k1, k2, k3, k4⟩ := hcs.out _ hb1
          go_wp2
          go_ret
          exact ⟨ret_bool (by first | rfl | (simp; omega)), hb0.out.trans (hb1.mono (by omega))⟩
      · rw [Bool.true_and]
        obtain ⟨a1, b1⟩ := rngB_at h1
        clear h1
        cases h2 : rngB sh 0 16
        · rcases rngB_no h2 with g | ⟨g, g'⟩
          all_goals
            clear h2
            go_enter Try.func69, Try.ntmps69
            go_wp2_with fail
            rw [← eV.out]
            obtain ⟨k0, k1, k2, k3, k4⟩ := hcs.out _ (Below.refl _ _)
            go_wp2_with fail
            refine (RT.out _ (Below.refl _ _)).mono ?_
            rintro e w1 ⟨rfl, hb1⟩
            have hb1 := (Below.refl (w.heap.size + 1) V).trans (hb1.mono (Nat.le_of_eq hz.out.symm))
            obtain ⟨k0, k1, k2, k3, k4⟩ := hcs.out _ hb1
            go_wp2
            go_ret
            exact ⟨ret_bool (by first | rfl | (simp; omega)), hb0.out.trans (hb1.mono (by omega))⟩
        · obtain ⟨a2, b2⟩ := rngB_at h2
          clear h2
          go_enter Try.func69, Try.ntmps69
          go_wp2_with fail
          rw [← eV.out]
          obtain ⟨k0, k1, k2, k3, k4⟩ := hcs.out _ (Below.refl _ _)
          go_wp2_with fail
          refine (RT.out _ (Below.refl _ _)).mono ?_
          rintro e w1 ⟨rfl, hb1⟩
          have hb1 := (Below.refl (w.heap.size + 1) V).trans (hb1.mono (Nat.le_of_eq hz.out.symm))
          obtain ⟨k0, k1, k2, k3, k4⟩ := hcs.out _ hb1
          go_wp2
          go_ret
          exact ⟨ret_bool (by first | rfl | (simp; omega)), hb0.out.trans (hb1.mono (by omega))⟩
set_option maxRecDepth 100000 in
set_option maxHeartbeats 8000000 in
theorem aturn_any (ax ay : Option Addr) (cx cy : Nat) (X Y : List Int) (tau arm sh : Int) (rate speed : Int) (w : World) (hx : RowIs .i64 w ax X) (hy : RowIs .i64 w ay Y) (hX : X.length ≤ 300) (hY : Y.length ≤ 300) (hs : speed ≤ 9223372036854775807) :
    Calls Try.prog 71 #[.agg #[.slice ax X.length cx, .slice ay Y.length cy, .int .i64 tau, .int .i64 arm, .int .i64 sh], .int .i64 rate, .int .i64 speed] w fun e w' => e = .returned (.tuple #[.int .i64 (if agB X Y tau arm sh then tuV rate speed arm else 0), .bool (agB X Y tau arm sh)]) ∧ Below w.heap.size w w' := by
  obtain ⟨V, eV, hb0, hz, hcs⟩ := van_box w ax ay cx cy X Y tau arm sh
  have RT := fun u (h : Below (w.heap.size + 1) V u) => aright_any ax ay cx cy X Y tau arm sh u (hx.below (hb0.trans (h.mono (by omega)))) (hy.below (hb0.trans (h.mono (by omega)))) hX hY
  cases hw : agB X Y tau arm sh
  · rw [hw] at RT
    replace RT := Lib.hid RT
    simp only [Bool.false_eq_true, if_false]
    clear hx hy hX hY hw
    replace hb0 := Lib.hid hb0
    replace hz := Lib.hid hz
    replace hcs := Lib.hid hcs
    replace eV := Lib.hid eV
    go_enter Try.func71, Try.ntmps71
    go_wp2_with fail
    rw [← eV.out]
    obtain ⟨k0, k1, k2, k3, k4⟩ := hcs.out _ (Below.refl _ _)
    go_wp2_with fail
    refine (RT.out _ (Below.refl _ _)).mono ?_
    rintro e w1 ⟨rfl, hb1⟩
    have hb1 := (Below.refl (w.heap.size + 1) V).trans (hb1.mono (Nat.le_of_eq hz.out.symm))
    obtain ⟨k0, k1, k2, k3, k4⟩ := hcs.out _ hb1
    go_wp2
    go_ret2
    exact ⟨rfl, hb0.out.trans (hb1.mono (by omega))⟩
  · rw [hw] at RT
    obtain ⟨-, -, ⟨a1, a2⟩, -, -⟩ := agB_at hw
    simp only [if_true]
    have FT := fun u => fit_any (min (max rate (-100000)) 100000) arm (max speed 1000) u (by omega) (by omega) (by omega) (by omega) (by omega) (by omega)
    replace RT := Lib.hid RT
    rw [show fitV (min (max rate (-100000)) 100000) arm (max speed 1000) = tuV rate speed arm from rfl] at FT
    generalize tuV rate speed arm = F at *
    replace FT := Lib.hid FT
    clear hx hy hX hY hw a1 a2
    replace hb0 := Lib.hid hb0
    replace hz := Lib.hid hz
    replace hcs := Lib.hid hcs
    replace eV := Lib.hid eV
    go_enter Try.func71, Try.ntmps71
    go_wp2_with fail
    rw [← eV.out]
    obtain ⟨k0, k1, k2, k3, k4⟩ := hcs.out _ (Below.refl _ _)
    go_wp2_with fail
    refine (RT.out _ (Below.refl _ _)).mono ?_
    rintro e w1 ⟨rfl, hb1⟩
    have hb1 := (Below.refl (w.heap.size + 1) V).trans (hb1.mono (Nat.le_of_eq hz.out.symm))
    obtain ⟨k0, k1, k2, k3, k4⟩ := hcs.out _ hb1
    go_wp2_with fail
    refine (FT.out _).mono ?_
    rintro e w2 ⟨rfl, hb2⟩
    have hb2 := hb1.trans (hb2.mono (by have := hb1.size; have := hz.out; omega))
    clear hb1
    go_wp2
    go_ret2
    exact ⟨rfl, hb0.out.trans (hb2.mono (by omega))⟩
set_option maxRecDepth 100000 in
set_option maxHeartbeats 8000000 in
theorem atrue_any (ax ay : Option Addr) (cx cy : Nat) (X Y : List Int) (tau arm sh : Int) (v rate speed : Int) (w : World) (hx : RowIs .i64 w ax X) (hy : RowIs .i64 w ay Y) (hX : X.length ≤ 300) (hY : Y.length ≤ 300) (hs : speed ≤ 9223372036854775807) :
    Calls Try.prog 43 #[.agg #[.slice ax X.length cx, .slice ay Y.length cy, .int .i64 tau, .int .i64 arm, .int .i64 sh], .int .i64 v, .int .i64 rate, .int .i64 speed] w fun e w' => e = .returned (.tuple #[.int .i64 (if agB X Y tau arm sh then trV X Y arm v rate speed else 0), .bool (agB X Y tau arm sh)]) ∧ Below w.heap.size w w' := by
  obtain ⟨V, eV, hb0, hz, hcs⟩ := van_box w ax ay cx cy X Y tau arm sh
  have TU := fun u (h : Below (w.heap.size + 1) V u) => aturn_any ax ay cx cy X Y tau arm sh rate speed u (hx.below (hb0.trans (h.mono (by omega)))) (hy.below (hb0.trans (h.mono (by omega)))) hX hY hs
  cases hw : agB X Y tau arm sh
  · rw [hw] at TU
    simp only [Bool.false_eq_true, if_false] at TU ⊢
    replace TU := Lib.hid TU
    clear hx hy hX hY hw
    replace hb0 := Lib.hid hb0
    replace hz := Lib.hid hz
    replace hcs := Lib.hid hcs
    replace eV := Lib.hid eV
    go_enter Try.func43, Try.ntmps43
    go_wp2_with fail
    rw [← eV.out]
    obtain ⟨k0, k1, k2, k3, k4⟩ := hcs.out _ (Below.refl _ _)
    go_wp2_with fail
    refine (TU.out _ (Below.refl _ _)).mono ?_
    rintro e w1 ⟨rfl, hb1⟩
    have hb1 := (Below.refl (w.heap.size + 1) V).trans (hb1.mono (Nat.le_of_eq hz.out.symm))
    obtain ⟨k0, k1, k2, k3, k4⟩ := hcs.out _ hb1
    go_wp2
    go_ret2
    exact ⟨rfl, hb0.out.trans (hb1.mono (by omega))⟩
  · rw [hw] at TU
    simp only [if_true] at TU ⊢
    obtain ⟨hg, -⟩ := agB_at hw
    have AT := fun u (h : Below (w.heap.size + 1) V u) => cat5f ax ay cx cy X Y (clA v) u (hx.below (hb0.trans (h.mono (by omega)))) (hy.below (hb0.trans (h.mono (by omega)))) hX hY
    rw [hg] at AT
    simp only [if_true] at AT
    have CV := Lib.hid (fun u => aclip_any v u)
    have bt := tuV_bd rate speed arm
    have bc := crF_bd hg (clA v)
    unfold trV
    generalize crF X Y (clA v) = c at *
    generalize tuV rate speed arm = F at *
    generalize clA v = p at *
    have hwp : IntKind.i64.wrap (c + F) = c + F := IntWalk.i64_in _ ⟨by omega, by omega⟩
    have CS := Lib.hid (fun u => aclip_any (c + F) u)
    generalize clA (c + F) = R at *
    replace AT := Lib.hid AT
    replace TU := Lib.hid TU
    clear hx hy hX hY hw bt bc hg
    replace hb0 := Lib.hid hb0
    replace hz := Lib.hid hz
    replace hcs := Lib.hid hcs
    replace eV := Lib.hid eV
    go_enter Try.func43, Try.ntmps43
    go_wp2_with fail
    rw [← eV.out]
    obtain ⟨k0, k1, k2, k3, k4⟩ := hcs.out _ (Below.refl _ _)
    go_wp2_with fail
    refine (TU.out _ (Below.refl _ _)).mono ?_
    rintro e w1 ⟨rfl, hb1⟩
    have hb1 := (Below.refl (w.heap.size + 1) V).trans (hb1.mono (Nat.le_of_eq hz.out.symm))
    obtain ⟨k0, k1, k2, k3, k4⟩ := hcs.out _ hb1
    go_wp2_with fail
    refine region_moves (fun u => u.cell? ⟨w.heap.size, 0, none⟩ = some (.slice ax X.length cx) ∧ u.cell? ⟨w.heap.size, 1, none⟩ = some (.slice ay Y.length cy) ∧ u.cell? ⟨w.heap.size, 2, none⟩ = some (.int .i64 tau) ∧ u.cell? ⟨w.heap.size, 3, none⟩ = some (.int .i64 arm) ∧ u.cell? ⟨w.heap.size, 4, none⟩ = some (.int .i64 sh)) [] [(.free, 0), (.take, 1), (.free, 2), (.step, 3), (.step, 4), (.free, 5), (.free, 6), (.free, 7), (.free, 8), (.free, 9)] _ (by kernel_rfl) (by kernel_rfl) (by kernel_rfl) (by kernel_rfl) (by decide) rfl (fun _ _ _ _ _ h => h) ?_
    simp only [List.filterMap_cons, List.filterMap_nil, List.getElem?_toArray, List.getElem?_cons_zero, List.getElem?_cons_succ, Option.map_some]
    iterate 1
      first
        | (refine mv_free ?_ (Or.inl ⟨by rfl, ?_⟩) (⟨k0, k1, k2, k3, k4⟩) ?_
           rotate_left 1
           · intro u
             go_simp
             try simp only [d1]
             try simp only [d2]
             try simp only [d3]
             try with_reducible rfl
           simp only [Act.put, List.setIfInBounds_toArray, List.set_cons_zero, List.set_cons_succ])
        | (refine mv_free _ (Or.inr ⟨by rfl, rfl⟩) (⟨k0, k1, k2, k3, k4⟩) ?_
           simp only [Act.put, List.setIfInBounds_toArray, List.set_cons_zero, List.set_cons_succ])
    iterate 1
      first
        | (refine mv_take ?_ (Or.inl ⟨by rfl, ?_⟩) (⟨k0, k1, k2, k3, k4⟩) ?_
           rotate_left 1
           · intro u hu
             (try dsimp only at hu)
             go_simp
             try with_reducible rfl
           simp only [Act.put, List.setIfInBounds_toArray, List.set_cons_zero, List.set_cons_succ])
        | (refine mv_take _ (Or.inr ⟨by rfl, rfl⟩) (⟨k0, k1, k2, k3, k4⟩) ?_
           simp only [Act.put, List.setIfInBounds_toArray, List.set_cons_zero, List.set_cons_succ])
    iterate 1
      first
        | (refine mv_free ?_ (Or.inl ⟨by rfl, ?_⟩) (⟨k0, k1, k2, k3, k4⟩) ?_
           rotate_left 1
           · intro u
             go_simp
             try simp only [d1]
             try simp only [d2]
             try simp only [d3]
             try with_reducible rfl
           simp only [Act.put, List.setIfInBounds_toArray, List.set_cons_zero, List.set_cons_succ])
        | (refine mv_free _ (Or.inr ⟨by rfl, rfl⟩) (⟨k0, k1, k2, k3, k4⟩) ?_
           simp only [Act.put, List.setIfInBounds_toArray, List.set_cons_zero, List.set_cons_succ])
    refine mv_step (fun K hK => ?_)
    go_simp
    refine (CV.out _).mono ?_
    rintro e w2 ⟨rfl, hb2⟩
    have hb2 := (hb1.drew).trans (hb2.mono (by have := hb1.size; have := hz.out; show _ ≤ w1.heap.size; omega))
    clear hb1
    obtain ⟨k0, k1, k2, k3, k4⟩ := hcs.out _ hb2
    go_wp2_with fail
    refine hK.out _ _ _ (fun u hu => hu) (⟨k0, k1, k2, k3, k4⟩) ?_
    clear hK K
    refine mv_step (fun K hK => ?_)
    go_simp
    refine (AT.out _ (hb2)).mono ?_
    rintro e w3 ⟨rfl, hb3⟩
    have hb3 := (hb2).trans (hb3.mono (by have := hb2.size; have := hz.out; show _ ≤ w2.heap.size; omega))
    clear hb2
    obtain ⟨k0, k1, k2, k3, k4⟩ := hcs.out _ hb3
    go_wp2_with fail
    refine hK.out _ _ _ (fun u hu => hu) (⟨k0, k1, k2, k3, k4⟩) ?_
    clear hK K
    iterate 5
      first
        | (refine mv_free ?_ (Or.inl ⟨by rfl, ?_⟩) (⟨k0, k1, k2, k3, k4⟩) ?_
           rotate_left 1
           · intro u
             go_simp
             try simp only [d1]
             try simp only [d2]
             try simp only [d3]
             try with_reducible rfl
           simp only [Act.put, List.setIfInBounds_toArray, List.set_cons_zero, List.set_cons_succ])
        | (refine mv_free _ (Or.inr ⟨by rfl, rfl⟩) (⟨k0, k1, k2, k3, k4⟩) ?_
           simp only [Act.put, List.setIfInBounds_toArray, List.set_cons_zero, List.set_cons_succ])
    refine mv_done ?_
    go_wp2_with fail
    refine (CS.out _).mono ?_
    rintro e w4 ⟨rfl, hb4⟩
    have hb4 := hb3.trans (hb4.mono (by have := hb3.size; have := hz.out; omega))
    clear hb3
    go_wp2
    go_ret2
    exact ⟨rfl, hb0.out.trans (hb4.mono (by omega))⟩
end Go.Proofs.Ytnfbfggkbpobiaa
