/- Calibrated speeds and impact pressures at the sea's level, and the document's; the laws SpeedCalibrates and SpeedRises, walked. -/
import Derived.Test.YtbhoallcoblcoaaSpeed2
import Derived.Test.YtbhoallcoblcoaaClip09
import Derived.Test.YtbhoallcoblcoaaMach7
import Derived.Test.YtbhoallcoblcoaaMach6
namespace Go.Proofs.Ytbhoallcoblcoaa
open Go.ChangeShapes Go.WideShapes Go.ChangeAt Go.RowKit
set_option linter.unusedVariables false
set_option linter.unusedSimpArgs false

theorem c09_spT (t : Int) : c09 t 1 1000000 = spT t := rfl
def spM (m : Int) : Int := c09 m 0 20000
theorem spM_bd (m : Int) : 0 ≤ spM m ∧ spM m ≤ 20000 := c09_bd m 0 20000 (by omega)
theorem spM_is (m : Int) : (m < 0 ∧ spM m = 0) ∨ (20000 < m ∧ spM m = 20000) ∨ (0 ≤ m ∧ m ≤ 20000 ∧ spM m = m) := by unfold spM c09; omega
def spS (t : Int) : Int := rt (4018742 * spT t / 1000)
def spTr (m t : Int) : Int := spM m * spS t / 10000
theorem spS_bd (t : Int) : 0 ≤ spS t ∧ spS t ≤ 63394 := by
  have h := spT_bd t
  unfold spS
  exact ⟨(rt_is _ (by omega)).1, rt_le _ 63394 (by omega) (by omega) (by omega)⟩
theorem spS_mono {s t : Int} (h : s ≤ t) : spS s ≤ spS t := by
  have a := spT_bd s
  have b : spT s ≤ spT t := by unfold spT; omega
  unfold spS
  exact rt_mono _ _ (by omega) (by omega)
theorem spTr_p (m t : Int) : 0 ≤ spM m * spS t ∧ spM m * spS t ≤ 1267880000 := by
  have a := spM_bd m
  have b := spS_bd t
  exact ⟨Int.mul_nonneg a.1 b.1, by have := Int.mul_le_mul a.2 b.2 b.1 (by omega : (0 : Int) ≤ 20000); omega⟩
set_option maxHeartbeats 1000000 in
theorem ssound_any (t : Int) (w : World) : Calls Try.prog 41 #[.int .i64 t] w fun e w' => e = .returned (.int .i64 (spS t)) ∧ w = w' := by
  have h := spT_bd t
  have CL := Lib.hid (fun u => sclip_any t u)
  have R := fun u => rof_rt (4018742 * spT t / 1000) u (by omega) (by omega)
  rw [if_neg (by omega)] at R
  rw [show rt (4018742 * spT t / 1000) = spS t from rfl] at R
  replace R := Lib.hid R
  generalize spS t = S at *
  generalize spT t = T at *
  go_enter Try.func41, Try.ntmps41
  go_wp2_with fail
  refine (CL.out _).mono ?_
  rintro e w1 ⟨rfl, rfl⟩
  go_wp2_with fail
  refine (R.out _).mono ?_
  rintro e w2 ⟨rfl, rfl⟩
  go_wp2
  go_ret
  exact ⟨rfl, rfl⟩
set_option maxHeartbeats 2000000 in
theorem strue_any (m t : Int) (w : World) : Calls Try.prog 42 #[.int .i64 m, .int .i64 t] w fun e w' => e = .returned (.int .i64 (spTr m t)) ∧ w = w' := by
  have SO := Lib.hid (fun u => ssound_any t u)
  have p := spTr_p m t
  have hm := spM_is m
  have HV := Lib.hid (show spTr m t = spM m * spS t / 10000 from rfl)
  generalize spTr m t = V at *
  generalize spS t = S at *
  generalize spM m = M at *
  rcases hm with ⟨m1, rfl⟩ | ⟨m1, rfl⟩ | ⟨m1, m2, rfl⟩
  all_goals
    have HV := Lib.hid HV.out
    go_enter Try.func42, Try.ntmps42
    go_wp2_with fail
    all_goals first | (exfalso; omega) | skip
    refine (SO.out _).mono ?_
    rintro e w1 ⟨rfl, rfl⟩
    go_wp2
    go_ret
    refine ⟨ret_int ?_, rfl⟩
    rw [HV.out]
    try omega

/-- The speed of an impact pressure at the sea's level. -/
def spCa (q : Int) : Int := maV q 6484800 * 34029 / 10000
theorem maV_bd (q p : Int) : 0 ≤ maV q p ∧ maV q p ≤ 20000 := by
  have := mcO_bd (fitV q 1073741824 p)
  unfold maV
  split <;> omega
theorem spCa_mono {a b : Int} (h : a ≤ b) : spCa a ≤ spCa b := by
  have x := maV_bd a 6484800
  have y := maV_bd b 6484800
  have : maV a 6484800 ≤ maV b 6484800 := by
    by_cases h0 : 0 ≤ a
    · exact (maV_more h0 h (show (1 : Int) ≤ 6484800 by omega) (Int.le_refl _)).1
    · have : maV a 6484800 = 0 := by unfold maV maB; rw [decide_eq_true (show a < 0 by omega)]; simp
      omega
  unfold spCa
  omega
def spC2 (c : Int) : Int := if c < 0 then 0 else if 68058 < c then 68058 else c
theorem spC2_bd (c : Int) : 0 ≤ spC2 c ∧ spC2 c ≤ 68058 := by unfold spC2; omega
theorem spC2_is (c : Int) : (c < 0 ∧ spC2 c = 0) ∨ (68058 < c ∧ spC2 c = 68058) ∨ (0 ≤ c ∧ c ≤ 68058 ∧ spC2 c = c) := by unfold spC2; omega
def spP2 (v : Int) (i : Nat) : Bool := decide (v ≤ (i : Int) * 34029 / 10000)
def spK2 (v : Int) : Nat := lpl (spP2 v) 20000
theorem spK2_is (v : Int) : spK2 v ≤ 20000 ∧ (∀ t, t < spK2 v → spP2 v t = false) ∧ ∀ t, spK2 v ≤ t → t < 20000 → spP2 v t = true :=
  by
  have hm : ∀ a b : Nat, a ≤ b → spP2 v a = true → spP2 v b = true := fun a b h hp => by
    unfold spP2 at *
    simp only [decide_eq_true_eq] at *
    omega
  have h : ∀ n : Nat, lpl (spP2 v) n ≤ n ∧ (∀ t, t < lpl (spP2 v) n → spP2 v t = false) ∧ ∀ t, lpl (spP2 v) n ≤ t → t < n → spP2 v t = true := lpl_is (spP2 v) hm
  unfold spK2
  exact h 20000
/-- The impact pressure of a speed at the sea's level. -/
def spIm (c : Int) : Int := fitV 6484800 (mcR (spK2 (spC2 c))) 1073741824
theorem spIm_mono {a b : Int} (h : a ≤ b) : spIm a ≤ spIm b := by
  have hv : spC2 a ≤ spC2 b := by unfold spC2; omega
  obtain ⟨a1, a2, a3⟩ := spK2_is (spC2 a)
  obtain ⟨b1, b2, b3⟩ := spK2_is (spC2 b)
  have hk : spK2 (spC2 a) ≤ spK2 (spC2 b) := by
    by_cases e : spK2 (spC2 a) ≤ spK2 (spC2 b)
    · exact e
    · have x := a2 (spK2 (spC2 b)) (by omega)
      have y := b3 (spK2 (spC2 b)) (Nat.le_refl _) (by omega)
      unfold spP2 at x y
      simp only [decide_eq_true_eq, decide_eq_false_iff_not] at x y
      omega
  have hr := mcR_mono (show ((spK2 (spC2 a) : Nat) : Int) ≤ ((spK2 (spC2 b) : Nat) : Int) by omega)
  unfold spIm
  generalize mcR ((spK2 (spC2 a) : Nat) : Int) = r0 at *
  generalize mcR ((spK2 (spC2 b) : Nat) : Int) = r1 at *
  clear hk a1 a2 a3 b1 b2 b3 hv
  unfold fitV
  rw [wq_ps (by omega), wq_ps (by omega)]
  omega
theorem spTr_mono {m n s t : Int} (h1 : m ≤ n) (h2 : s ≤ t) : spTr m s ≤ spTr n t ∧ 0 ≤ spTr m s := by
  have a := spM_bd m
  have b : spM m ≤ spM n := by unfold spM c09; omega
  have c := spS_mono h2
  have d := spS_bd s
  have e := Int.mul_le_mul b c d.1 (by omega)
  have f := Int.mul_nonneg a.1 d.1
  unfold spTr
  omega

set_option maxHeartbeats 1000000 in
theorem ssea_any (m : Int) (w : World) (h0 : 0 ≤ m) (h1 : m ≤ 20000) : Calls Try.prog 63 #[.int .i64 m] w fun e w' => e = .returned (.int .i64 (m * 34029 / 10000)) ∧ w = w' := by
  go_enter Try.func63, Try.ntmps63
  go_wp2
  go_ret
  exact ⟨rfl, rfl⟩
set_option maxHeartbeats 1000000 in
theorem scal_any (q : Int) (w : World) (g1 : -9223372036854775808 ≤ q) (g2 : q ≤ 9223372036854775807) : Calls Try.prog 36 #[.int .i64 q] w fun e w' => e = .returned (.int .i64 (spCa q)) ∧ Below w.heap.size w w' := by
  have AT := Lib.hid (fun u => mat_any q 6484800 u g1 g2 (by omega) (by omega))
  have b := maV_bd q 6484800
  have HV := Lib.hid (show spCa q = maV q 6484800 * 34029 / 10000 from rfl)
  have SE := Lib.hid (fun u => ssea_any (maV q 6484800) u b.1 b.2)
  generalize spCa q = R at *
  generalize maV q 6484800 = V at *
  generalize maB q 6484800 = B at *
  go_enter Try.func36, Try.ntmps36
  go_wp2_with fail
  refine (AT.out _).mono ?_
  rintro e w1 ⟨rfl, hb1⟩
  go_wp2_with fail
  refine (SE.out _).mono ?_
  rintro e w2 ⟨rfl, rfl⟩
  go_wp2
  go_ret
  exact ⟨ret_int HV.out.symm, hb1⟩
set_option maxHeartbeats 1000000 in
theorem rcal9_any (q : Int) (w : World) (g1 : -9223372036854775808 ≤ q) (g2 : q ≤ 9223372036854775807) : Calls Try.prog 37 #[.int .i64 q] w fun e w' => e = .returned (.int .i64 (spCa q)) ∧ Below w.heap.size w w' := by
  have AT := Lib.hid (fun u => rat8_any q 6484800 u g1 g2 (by omega) (by omega))
  have b := maV_bd q 6484800
  have HV := Lib.hid (show spCa q = maV q 6484800 * 34029 / 10000 from rfl)
  have HB := Lib.hid (fun h : maB q 6484800 = false => show maV q 6484800 = 0 by unfold maV; rw [h]; rfl)
  generalize spCa q = R at *
  generalize maV q 6484800 = V at *
  generalize maB q 6484800 = B at *
  cases B
  · have hv := Lib.hid (HB.out rfl)
    go_enter Try.func37, Try.ntmps37
    go_wp2_with fail
    refine (AT.out _).mono ?_
    rintro e w1 ⟨rfl, hb1⟩
    go_wp2
    go_ret
    exact ⟨ret_int (by rw [HV.out, hv.out]; rfl), hb1⟩
  · go_enter Try.func37, Try.ntmps37
    go_wp2_with fail
    refine (AT.out _).mono ?_
    rintro e w1 ⟨rfl, hb1⟩
    go_wp2
    go_ret
    exact ⟨ret_int HV.out.symm, hb1⟩

set_option maxRecDepth 100000 in
set_option maxHeartbeats 4000000 in
theorem simp1_any (b : Nat) (v : Int) (i : Nat) (hi : i < 20000) (w : World) (h0 : w.cell? ⟨b, 0, none⟩ = some (.int .i64 v)) (hlt : b < w.heap.size) :
    Calls Try.prog 64 (#[.int .i64 (i : Nat)] ++ #[.pointer (some ⟨b, 0, none⟩)]) w fun e w' => e = .returned (.bool (spP2 v i)) ∧ Below w.heap.size w w' := by
  have SE := Lib.hid (fun u => ssea_any (i : Int) u (by omega) (by omega))
  have HP := Lib.hid (show spP2 v i = decide (v ≤ (i : Int) * 34029 / 10000) from rfl)
  generalize (i : Int) * 34029 / 10000 = R at *
  generalize spP2 v i = q at *
  have HL := Lib.hid hlt
  clear hlt hi
  go_enter Try.func64, Try.ntmps64
  go_wp2_with fail
  refine region_moves (fun u => u.cell? ⟨b, 0, none⟩ = some (.int .i64 v)) [] [(.free, 0), (.take, 2), (.step, 1), (.free, 3), (.free, 4)] _ (by kernel_rfl) (by kernel_rfl) (by kernel_rfl) (by kernel_rfl) (by decide) rfl (fun _ _ _ _ _ h => h) ?_
  simp only [List.filterMap_cons, List.filterMap_nil, List.getElem?_toArray, List.getElem?_cons_zero, List.getElem?_cons_succ, Option.map_some]
  iterate 1
    first
      | (refine mv_free ?_ (Or.inl ⟨by rfl, ?_⟩) (h0) ?_
         rotate_left 1
         · intro u
           go_simp
           try simp only [d1]
           try simp only [d2]
           try simp only [d3]
           try simp only [d4]
           try simp only [d5]
           try with_reducible rfl
         simp only [Act.put, List.setIfInBounds_toArray, List.set_cons_zero, List.set_cons_succ])
      | (refine mv_free _ (Or.inr ⟨by rfl, rfl⟩) (h0) ?_
         simp only [Act.put, List.setIfInBounds_toArray, List.set_cons_zero, List.set_cons_succ])
  iterate 1
    first
      | (refine mv_take ?_ (Or.inl ⟨by rfl, ?_⟩) (h0) ?_
         rotate_left 1
         · intro u hu
           (try dsimp only at hu)
           go_simp
           try with_reducible rfl
         simp only [Act.put, List.setIfInBounds_toArray, List.set_cons_zero, List.set_cons_succ])
      | (refine mv_take _ (Or.inr ⟨by rfl, rfl⟩) (h0) ?_
         simp only [Act.put, List.setIfInBounds_toArray, List.set_cons_zero, List.set_cons_succ])
  refine mv_step (fun K hK => ?_)
  go_simp
  refine (SE.out _).mono ?_
  rintro e w1 ⟨rfl, rfl⟩
  go_wp2_with fail
  refine hK.out _ _ _ (fun u hu => hu) (h0) ?_
  clear hK K
  iterate 2
    first
      | (refine mv_free ?_ (Or.inl ⟨by rfl, ?_⟩) (h0) ?_
         rotate_left 1
         · intro u
           go_simp
           try simp only [d1]
           try simp only [d2]
           try simp only [d3]
           try simp only [d4]
           try simp only [d5]
           try with_reducible rfl
         simp only [Act.put, List.setIfInBounds_toArray, List.set_cons_zero, List.set_cons_succ])
      | (refine mv_free _ (Or.inr ⟨by rfl, rfl⟩) (h0) ?_
         simp only [Act.put, List.setIfInBounds_toArray, List.set_cons_zero, List.set_cons_succ])
  refine mv_done ?_
  go_wp2
  go_ret
  exact ⟨ret_bool HP.out.symm, (Below.refl _ _).drew⟩

set_option maxRecDepth 100000 in
set_option maxHeartbeats 4000000 in
theorem simp_any (c : Int) (w : World) : Calls Try.prog 38 #[.int .i64 c] w fun e w' => e = .returned (.int .i64 (spIm c)) ∧ Below w.heap.size w w' := by
  have hc := spC2_is c
  have HV := Lib.hid (show spIm c = fitV 6484800 (mcR (spK2 (spC2 c))) 1073741824 from rfl)
  generalize spIm c = V at *
  generalize spC2 c = v at *
  obtain ⟨k1, k2, k3⟩ := spK2_is v
  have IM := Lib.hid (fun u => mimp_any (spK2 v) 6484800 u (by omega) (by omega))
  obtain ⟨W0, eV, hb0, hz, hcl⟩ : ∃ V, V = w.alloc (.cells #[.int .i64 v] 2) ∧ Below w.heap.size w V ∧ V.heap.size = w.heap.size + 1 ∧ V.cell? ⟨w.heap.size, 0, none⟩ = some (.int .i64 v) := ⟨_, rfl, (by repeat (first | exact Below.refl _ _ | assumption | apply Below.drew | apply below_drewN | (refine Below.alloc ?_ (by first | exact Nat.le_refl _ | omega | (simp <;> omega)) _) | (refine Below.setCell ?_ (by first | exact Nat.le_refl _ | omega | (simp <;> omega)) _))), by simp, by go_simp⟩
  have SR := search_any 64 #[.pointer (some ⟨w.heap.size, 0, none⟩)] 20000 (spK2 v) (spP2 v) W0 (enters_of Try.func64 (by kernel_rfl) rfl) (by omega) k1 k2 k3
    (fun u i hi hb => simp1_any w.heap.size v i hi u ((bc hb (by omega)).trans hcl) (by have := hb.size; omega))
  replace SR : Calls Try.prog 59 #[.int .i64 20000, .func (.func 64) #[] #[.pointer (some ⟨w.heap.size, 0, none⟩)]] W0 fun e w' => e = .returned (.int .i64 (spK2 v)) ∧ Below W0.heap.size W0 w' := SR
  replace SR := Lib.hid SR
  clear k2 k3
  generalize fitV 6484800 (mcR (spK2 v)) 1073741824 = F at *
  generalize spK2 v = K at *
  replace hb0 := Lib.hid hb0
  replace hz := Lib.hid hz
  replace eV := Lib.hid eV
  rcases hc with ⟨c1, rfl⟩ | ⟨c1, rfl⟩ | ⟨c1, c2, rfl⟩
  all_goals
    go_enter Try.func38, Try.ntmps38
    go_wp2_with fail
    all_goals first | (exfalso; omega) | skip
    rw [← eV.out]
    refine SR.out.mono ?_
    rintro e w1 ⟨rfl, hb1⟩
    go_wp2_with fail
    refine (IM.out _).mono ?_
    rintro e w2 ⟨rfl, hb2⟩
    go_wp2
    go_ret
    exact ⟨ret_int HV.out.symm, (hb0.out.trans (hb1.mono hb0.out.size)).trans (hb2.mono (Nat.le_trans hb0.out.size hb1.size))⟩
set_option maxRecDepth 100000 in
set_option maxHeartbeats 4000000 in
theorem rimp9_any (c : Int) (w : World) : Calls Try.prog 39 #[.int .i64 c] w fun e w' => e = .returned (.int .i64 (spIm c)) ∧ Below w.heap.size w w' := by
  have HV := Lib.hid (show spIm c = fitV 6484800 (mcR (spK2 (spC2 c))) 1073741824 from rfl)
  have CL := fun u => c09_any c 0 68058 (by omega) u
  rw [show c09 c 0 68058 = spC2 c from rfl] at CL
  replace CL := Lib.hid CL
  have vb := spC2_bd c
  generalize spIm c = V at *
  generalize spC2 c = v at *
  have HK := Lib.hid (spK2_is v)
  have IM := Lib.hid (fun m u => rimp8_any m 6484800 u (by omega) (by omega))
  go_enter Try.func39, Try.ntmps39
  go_wp2_with fail
  refine (CL.out _).mono ?_
  rintro e w1 ⟨rfl, rfl⟩
  go_wp2
  go_loopw [4] (fun a u => ∃ m : Nat, m ≤ 20001 ∧ a = .int .i64 m ∧ Below w.heap.size w u ∧ Hid (∀ t, t < m → spP2 v t = false)) (fun a _ => (20001 - intOf a).toNat)
  case atStart => exact ⟨0, by omega, rfl, Below.refl _ _, Lib.hid (fun t h => absurd h (Nat.not_lt_zero _))⟩
  case round =>
    obtain ⟨m, hm, rfl, hb, hU⟩ := hrel
    by_cases hlt : m ≤ 20000
    · have hm' : (m : Int) ≤ 20000 := by omega
      cases hp : spP2 v m
      · have hq : (m : Int) * 34029 / 10000 < v := by unfold spP2 at hp; simpa using hp
        have st := Lib.hid (show ∀ t, t < m + 1 → spP2 v t = false from fun t ht => by
          by_cases e : t = m
          · subst e; exact hp
          · exact hU.out t (by omega))
        clear hp
        go_wp2
        go_roundw
        case rel => exact ⟨m + 1, by omega, by go_num, hb, st⟩
        case measure => simp [intOf]; omega
      · have hq : v ≤ (m : Int) * 34029 / 10000 := by unfold spP2 at hp; simpa using hp
        have hk := Lib.hid (show spK2 v = m by
          obtain ⟨a1, a2, a3⟩ := HK.out
          rcases Nat.lt_trichotomy (spK2 v) m with h | h | h
          · have x := hU.out _ h
            by_cases e : spK2 v < 20000
            · rw [a3 _ (Nat.le_refl _) e] at x; cases x
            · omega
          · exact h
          · have := a2 m h; rw [hp] at this; cases this)
        clear hp
        have IM1 := Lib.hid (IM.out (m : Int))
        obtain ⟨F, hF⟩ : ∃ F, fitV 6484800 (mcR (m : Int)) 1073741824 = F := ⟨_, rfl⟩
        rw [hF] at IM1
        have HR := Lib.hid (show F = V by rw [HV.out, hk.out, hF])
        clear hF
        go_wp2_with fail
        refine (IM1.out _).mono ?_
        rintro e w2 ⟨rfl, hb2⟩
        go_wp2
        go_ret
        exact ⟨ret_int HR.out, hb.trans (hb2.mono hb.size)⟩
    · exfalso
      have h1 := hU.out 20000 (by omega)
      unfold spP2 at h1
      simp at h1
      omega
set_option maxHeartbeats 2000000 in
theorem law_SpeedCalibrates (q c : Int) (w : World) (g1 : -9223372036854775808 ≤ q) (g2 : q ≤ 9223372036854775807) : Calls Try.prog 12 #[.int .i64 q, .int .i64 c] w fun e w' => e = .returned (.bool true) ∧ Below w.heap.size w w' := by
  have R1 := Lib.hid (fun u => scal_any q u g1 g2)
  have R2 := Lib.hid (fun u => rcal9_any q u g1 g2)
  have R3 := Lib.hid (fun u => simp_any c u)
  have R4 := Lib.hid (fun u => rimp9_any c u)
  generalize spCa q = X at *
  generalize spIm c = F at *
  go_enter Try.func12, Try.ntmps12
  go_wp2_with fail
  refine (R1.out _).mono ?_
  rintro e w1 ⟨rfl, hb⟩
  go_wp2_with fail
  refine (R2.out _).mono ?_
  rintro e w2 ⟨rfl, hb2⟩
  replace hb := hb.trans (hb2.mono hb.size)
  clear hb2
  go_wp2_with fail
  refine (R3.out _).mono ?_
  rintro e w3 ⟨rfl, hb2⟩
  replace hb := hb.trans (hb2.mono hb.size)
  clear hb2
  go_wp2_with fail
  refine (R4.out _).mono ?_
  rintro e w4 ⟨rfl, hb2⟩
  replace hb := hb.trans (hb2.mono hb.size)
  clear hb2
  go_wp2_with fail
  refine (lives09 _).mono ?_
  rintro e w5 ⟨rfl, hb2⟩
  go_wp2
  go_ret
  exact ⟨rfl, hb.trans (hb2.mono hb.size)⟩
set_option maxRecDepth 100000 in
set_option maxHeartbeats 8000000 in
theorem law_SpeedRises (x0 x1 y0 y1 : Int) (w : World) (a1 : -9223372036854775808 ≤ x0) (a2 : x0 ≤ 9223372036854775807) (b1 : -9223372036854775808 ≤ x1) (b2 : x1 ≤ 9223372036854775807) :
    Calls Try.prog 13 #[.agg #[.int .i64 x0, .int .i64 x1], .agg #[.int .i64 y0, .int .i64 y1]] w fun e w' => e = .returned (.bool true) ∧ Below w.heap.size w w' := by
  obtain ⟨V, eV, hb0, hz, hcs⟩ := two_box w x0 x1 y0 y1
  replace hb0 := Lib.hid hb0
  replace hz := Lib.hid hz
  replace hcs := Lib.hid hcs
  replace eV := Lib.hid eV
  by_cases hin : x0 ≤ x1 ∧ y0 ≤ y1
  · obtain ⟨i1, i2⟩ := hin
    have Q0 := Lib.hid (fun u => scal_any x0 u a1 a2)
    have Q1 := Lib.hid (fun u => scal_any x1 u b1 b2)
    have I0 := Lib.hid (fun u => simp_any x0 u)
    have I1 := Lib.hid (fun u => simp_any x1 u)
    have S0 := Lib.hid (fun u => ssound_any x0 u)
    have S1 := Lib.hid (fun u => ssound_any x1 u)
    have T0 := Lib.hid (fun u => strue_any x0 y0 u)
    have T1 := Lib.hid (fun u => strue_any x1 y1 u)
    have T0b := Lib.hid (fun u => strue_any x0 y0 u)
    have m1 := spCa_mono i1
    have m2 := spIm_mono i1
    have m3 := spS_mono i1
    have m4 := spTr_mono i1 i2
    clear a1 a2 b1 b2
    generalize spCa x0 = p0 at *
    generalize spCa x1 = p1 at *
    generalize spIm x0 = q0 at *
    generalize spIm x1 = q1 at *
    generalize spTr x0 y0 = t0 at *
    generalize spTr x1 y1 = t1 at *
    generalize spS x0 = s0 at *
    generalize spS x1 = s1 at *
    have d1 : decide (p1 < p0) = false := decide_eq_false (by omega)
    have d2 : decide (q1 < q0) = false := decide_eq_false (by omega)
    have d3 : decide (s1 < s0) = false := decide_eq_false (by omega)
    have d4 : decide (t0 ≤ t1) = true := decide_eq_true (by omega)
    have d5 : decide (0 ≤ t0) = true := decide_eq_true (by omega)
    go_enter Try.func13, Try.ntmps13
    go_wp2_with fail
    rw [← eV.out]
    obtain ⟨k0, k1, k2, k3⟩ := hcs.out _ (Below.refl _ _)
    go_wp2_with fail
    refine region_moves (fun u => u.cell? ⟨w.heap.size, 0, none⟩ = some (.int .i64 x0) ∧ u.cell? ⟨w.heap.size, 1, none⟩ = some (.int .i64 x1) ∧ u.cell? ⟨w.heap.size + 1, 0, none⟩ = some (.int .i64 y0) ∧ u.cell? ⟨w.heap.size + 1, 1, none⟩ = some (.int .i64 y1)) [] [(.free, 0), (.take, 1), (.free, 3), (.take, 4), (.step, 2), (.step, 5), (.free, 6), (.free, 7), (.free, 8), (.take, 9), (.free, 11), (.take, 12), (.step, 10), (.step, 13), (.free, 14), (.free, 15), (.free, 16), (.free, 17), (.take, 18), (.free, 20), (.take, 21), (.step, 19), (.step, 22), (.free, 23), (.free, 24)] _ (by kernel_rfl) (by kernel_rfl) (by kernel_rfl) (by kernel_rfl) (by decide) rfl (fun _ _ _ _ _ h => h) ?_
    simp only [List.filterMap_cons, List.filterMap_nil, List.getElem?_toArray, List.getElem?_cons_zero, List.getElem?_cons_succ, Option.map_some]
    iterate 1
      first
        | (refine mv_free ?_ (Or.inl ⟨by rfl, ?_⟩) (⟨k0, k1, k2, k3⟩) ?_
           rotate_left 1
           · intro u
             go_simp
             try simp only [d1]
             try simp only [d2]
             try simp only [d3]
             try simp only [d4]
             try simp only [d5]
             try with_reducible rfl
           simp only [Act.put, List.setIfInBounds_toArray, List.set_cons_zero, List.set_cons_succ])
        | (refine mv_free _ (Or.inr ⟨by rfl, rfl⟩) (⟨k0, k1, k2, k3⟩) ?_
           simp only [Act.put, List.setIfInBounds_toArray, List.set_cons_zero, List.set_cons_succ])
    iterate 1
      first
        | (refine mv_take ?_ (Or.inl ⟨by rfl, ?_⟩) (⟨k0, k1, k2, k3⟩) ?_
           rotate_left 1
           · intro u hu
             (try dsimp only at hu)
             go_simp
             try with_reducible rfl
           simp only [Act.put, List.setIfInBounds_toArray, List.set_cons_zero, List.set_cons_succ])
        | (refine mv_take _ (Or.inr ⟨by rfl, rfl⟩) (⟨k0, k1, k2, k3⟩) ?_
           simp only [Act.put, List.setIfInBounds_toArray, List.set_cons_zero, List.set_cons_succ])
    iterate 1
      first
        | (refine mv_free ?_ (Or.inl ⟨by rfl, ?_⟩) (⟨k0, k1, k2, k3⟩) ?_
           rotate_left 1
           · intro u
             go_simp
             try simp only [d1]
             try simp only [d2]
             try simp only [d3]
             try simp only [d4]
             try simp only [d5]
             try with_reducible rfl
           simp only [Act.put, List.setIfInBounds_toArray, List.set_cons_zero, List.set_cons_succ])
        | (refine mv_free _ (Or.inr ⟨by rfl, rfl⟩) (⟨k0, k1, k2, k3⟩) ?_
           simp only [Act.put, List.setIfInBounds_toArray, List.set_cons_zero, List.set_cons_succ])
    iterate 1
      first
        | (refine mv_take ?_ (Or.inl ⟨by rfl, ?_⟩) (⟨k0, k1, k2, k3⟩) ?_
           rotate_left 1
           · intro u hu
             (try dsimp only at hu)
             go_simp
             try with_reducible rfl
           simp only [Act.put, List.setIfInBounds_toArray, List.set_cons_zero, List.set_cons_succ])
        | (refine mv_take _ (Or.inr ⟨by rfl, rfl⟩) (⟨k0, k1, k2, k3⟩) ?_
           simp only [Act.put, List.setIfInBounds_toArray, List.set_cons_zero, List.set_cons_succ])
    refine mv_step (fun K hK => ?_)
    go_simp
    refine (Q0.out _).mono ?_
    rintro e w1 ⟨rfl, hb1⟩
    have hb1 := (Below.refl (w.heap.size + 2) V).drew.trans (hb1.mono (by have := hz.out; show _ ≤ V.heap.size; omega))
    obtain ⟨k0, k1, k2, k3⟩ := hcs.out _ hb1
    go_wp2_with fail
    refine hK.out _ _ _ (fun u hu => hu) (⟨k0, k1, k2, k3⟩) ?_
    clear hK K
    refine mv_step (fun K hK => ?_)
    go_simp
    refine (Q1.out _).mono ?_
    rintro e w2 ⟨rfl, hb2⟩
    have hb2 := hb1.trans (hb2.mono (by have := hb1.size; have := hz.out; show _ ≤ w1.heap.size; omega))
    clear hb1
    obtain ⟨k0, k1, k2, k3⟩ := hcs.out _ hb2
    go_wp2_with fail
    refine hK.out _ _ _ (fun u hu => hu) (⟨k0, k1, k2, k3⟩) ?_
    clear hK K
    iterate 3
      first
        | (refine mv_free ?_ (Or.inl ⟨by rfl, ?_⟩) (⟨k0, k1, k2, k3⟩) ?_
           rotate_left 1
           · intro u
             go_simp
             try simp only [d1]
             try simp only [d2]
             try simp only [d3]
             try simp only [d4]
             try simp only [d5]
             try with_reducible rfl
           simp only [Act.put, List.setIfInBounds_toArray, List.set_cons_zero, List.set_cons_succ])
        | (refine mv_free _ (Or.inr ⟨by rfl, rfl⟩) (⟨k0, k1, k2, k3⟩) ?_
           simp only [Act.put, List.setIfInBounds_toArray, List.set_cons_zero, List.set_cons_succ])
    iterate 1
      first
        | (refine mv_take ?_ (Or.inl ⟨by rfl, ?_⟩) (⟨k0, k1, k2, k3⟩) ?_
           rotate_left 1
           · intro u hu
             (try dsimp only at hu)
             go_simp
             try with_reducible rfl
           simp only [Act.put, List.setIfInBounds_toArray, List.set_cons_zero, List.set_cons_succ])
        | (refine mv_take _ (Or.inr ⟨by rfl, rfl⟩) (⟨k0, k1, k2, k3⟩) ?_
           simp only [Act.put, List.setIfInBounds_toArray, List.set_cons_zero, List.set_cons_succ])
    iterate 1
      first
        | (refine mv_free ?_ (Or.inl ⟨by rfl, ?_⟩) (⟨k0, k1, k2, k3⟩) ?_
           rotate_left 1
           · intro u
             go_simp
             try simp only [d1]
             try simp only [d2]
             try simp only [d3]
             try simp only [d4]
             try simp only [d5]
             try with_reducible rfl
           simp only [Act.put, List.setIfInBounds_toArray, List.set_cons_zero, List.set_cons_succ])
        | (refine mv_free _ (Or.inr ⟨by rfl, rfl⟩) (⟨k0, k1, k2, k3⟩) ?_
           simp only [Act.put, List.setIfInBounds_toArray, List.set_cons_zero, List.set_cons_succ])
    iterate 1
      first
        | (refine mv_take ?_ (Or.inl ⟨by rfl, ?_⟩) (⟨k0, k1, k2, k3⟩) ?_
           rotate_left 1
           · intro u hu
             (try dsimp only at hu)
             go_simp
             try with_reducible rfl
           simp only [Act.put, List.setIfInBounds_toArray, List.set_cons_zero, List.set_cons_succ])
        | (refine mv_take _ (Or.inr ⟨by rfl, rfl⟩) (⟨k0, k1, k2, k3⟩) ?_
           simp only [Act.put, List.setIfInBounds_toArray, List.set_cons_zero, List.set_cons_succ])
    refine mv_step (fun K hK => ?_)
    go_simp
    refine (I0.out _).mono ?_
    rintro e w3 ⟨rfl, hb3⟩
    have hb3 := hb2.trans (hb3.mono (by have := hb2.size; have := hz.out; show _ ≤ w2.heap.size; omega))
    clear hb2
    obtain ⟨k0, k1, k2, k3⟩ := hcs.out _ hb3
    go_wp2_with fail
    refine hK.out _ _ _ (fun u hu => hu) (⟨k0, k1, k2, k3⟩) ?_
    clear hK K
    refine mv_step (fun K hK => ?_)
    go_simp
    refine (I1.out _).mono ?_
    rintro e w4 ⟨rfl, hb4⟩
    have hb4 := hb3.trans (hb4.mono (by have := hb3.size; have := hz.out; show _ ≤ w3.heap.size; omega))
    clear hb3
    obtain ⟨k0, k1, k2, k3⟩ := hcs.out _ hb4
    go_wp2_with fail
    refine hK.out _ _ _ (fun u hu => hu) (⟨k0, k1, k2, k3⟩) ?_
    clear hK K
    iterate 4
      first
        | (refine mv_free ?_ (Or.inl ⟨by rfl, ?_⟩) (⟨k0, k1, k2, k3⟩) ?_
           rotate_left 1
           · intro u
             go_simp
             try simp only [d1]
             try simp only [d2]
             try simp only [d3]
             try simp only [d4]
             try simp only [d5]
             try with_reducible rfl
           simp only [Act.put, List.setIfInBounds_toArray, List.set_cons_zero, List.set_cons_succ])
        | (refine mv_free _ (Or.inr ⟨by rfl, rfl⟩) (⟨k0, k1, k2, k3⟩) ?_
           simp only [Act.put, List.setIfInBounds_toArray, List.set_cons_zero, List.set_cons_succ])
    iterate 1
      first
        | (refine mv_take ?_ (Or.inl ⟨by rfl, ?_⟩) (⟨k0, k1, k2, k3⟩) ?_
           rotate_left 1
           · intro u hu
             (try dsimp only at hu)
             go_simp
             try with_reducible rfl
           simp only [Act.put, List.setIfInBounds_toArray, List.set_cons_zero, List.set_cons_succ])
        | (refine mv_take _ (Or.inr ⟨by rfl, rfl⟩) (⟨k0, k1, k2, k3⟩) ?_
           simp only [Act.put, List.setIfInBounds_toArray, List.set_cons_zero, List.set_cons_succ])
    iterate 1
      first
        | (refine mv_free ?_ (Or.inl ⟨by rfl, ?_⟩) (⟨k0, k1, k2, k3⟩) ?_
           rotate_left 1
           · intro u
             go_simp
             try simp only [d1]
             try simp only [d2]
             try simp only [d3]
             try simp only [d4]
             try simp only [d5]
             try with_reducible rfl
           simp only [Act.put, List.setIfInBounds_toArray, List.set_cons_zero, List.set_cons_succ])
        | (refine mv_free _ (Or.inr ⟨by rfl, rfl⟩) (⟨k0, k1, k2, k3⟩) ?_
           simp only [Act.put, List.setIfInBounds_toArray, List.set_cons_zero, List.set_cons_succ])
    iterate 1
      first
        | (refine mv_take ?_ (Or.inl ⟨by rfl, ?_⟩) (⟨k0, k1, k2, k3⟩) ?_
           rotate_left 1
           · intro u hu
             (try dsimp only at hu)
             go_simp
             try with_reducible rfl
           simp only [Act.put, List.setIfInBounds_toArray, List.set_cons_zero, List.set_cons_succ])
        | (refine mv_take _ (Or.inr ⟨by rfl, rfl⟩) (⟨k0, k1, k2, k3⟩) ?_
           simp only [Act.put, List.setIfInBounds_toArray, List.set_cons_zero, List.set_cons_succ])
    refine mv_step (fun K hK => ?_)
    go_simp
    refine (S0.out _).mono ?_
    rintro e w5 ⟨rfl, rfl⟩
    go_wp2_with fail
    refine hK.out _ _ _ (fun u hu => hu) (⟨k0, k1, k2, k3⟩) ?_
    clear hK K
    refine mv_step (fun K hK => ?_)
    go_simp
    refine (S1.out _).mono ?_
    rintro e w6 ⟨rfl, rfl⟩
    go_wp2_with fail
    refine hK.out _ _ _ (fun u hu => hu) (⟨k0, k1, k2, k3⟩) ?_
    clear hK K
    iterate 2
      first
        | (refine mv_free ?_ (Or.inl ⟨by rfl, ?_⟩) (⟨k0, k1, k2, k3⟩) ?_
           rotate_left 1
           · intro u
             go_simp
             try simp only [d1]
             try simp only [d2]
             try simp only [d3]
             try simp only [d4]
             try simp only [d5]
             try with_reducible rfl
           simp only [Act.put, List.setIfInBounds_toArray, List.set_cons_zero, List.set_cons_succ])
        | (refine mv_free _ (Or.inr ⟨by rfl, rfl⟩) (⟨k0, k1, k2, k3⟩) ?_
           simp only [Act.put, List.setIfInBounds_toArray, List.set_cons_zero, List.set_cons_succ])
    refine mv_done ?_
    go_wp2_with fail
    refine region_moves (fun u => u.cell? ⟨w.heap.size, 0, none⟩ = some (.int .i64 x0) ∧ u.cell? ⟨w.heap.size, 1, none⟩ = some (.int .i64 x1) ∧ u.cell? ⟨w.heap.size + 1, 0, none⟩ = some (.int .i64 y0) ∧ u.cell? ⟨w.heap.size + 1, 1, none⟩ = some (.int .i64 y1)) [] [(.free, 0), (.take, 1), (.free, 2), (.take, 3), (.free, 5), (.take, 6), (.free, 7), (.take, 8), (.step, 4), (.step, 9), (.free, 10), (.free, 11), (.free, 12), (.take, 13), (.free, 14), (.take, 15), (.step, 16), (.free, 17), (.free, 18), (.free, 19), (.step, 20), (.free, 21), (.free, 22)] _ (by kernel_rfl) (by kernel_rfl) (by kernel_rfl) (by kernel_rfl) (by decide) rfl (fun _ _ _ _ _ h => h) ?_
    simp only [List.filterMap_cons, List.filterMap_nil, List.getElem?_toArray, List.getElem?_cons_zero, List.getElem?_cons_succ, Option.map_some]
    iterate 1
      first
        | (refine mv_free ?_ (Or.inl ⟨by rfl, ?_⟩) (⟨k0, k1, k2, k3⟩) ?_
           rotate_left 1
           · intro u
             go_simp
             try simp only [d1]
             try simp only [d2]
             try simp only [d3]
             try simp only [d4]
             try simp only [d5]
             try with_reducible rfl
           simp only [Act.put, List.setIfInBounds_toArray, List.set_cons_zero, List.set_cons_succ])
        | (refine mv_free _ (Or.inr ⟨by rfl, rfl⟩) (⟨k0, k1, k2, k3⟩) ?_
           simp only [Act.put, List.setIfInBounds_toArray, List.set_cons_zero, List.set_cons_succ])
    iterate 1
      first
        | (refine mv_take ?_ (Or.inl ⟨by rfl, ?_⟩) (⟨k0, k1, k2, k3⟩) ?_
           rotate_left 1
           · intro u hu
             (try dsimp only at hu)
             go_simp
             try with_reducible rfl
           simp only [Act.put, List.setIfInBounds_toArray, List.set_cons_zero, List.set_cons_succ])
        | (refine mv_take _ (Or.inr ⟨by rfl, rfl⟩) (⟨k0, k1, k2, k3⟩) ?_
           simp only [Act.put, List.setIfInBounds_toArray, List.set_cons_zero, List.set_cons_succ])
    iterate 1
      first
        | (refine mv_free ?_ (Or.inl ⟨by rfl, ?_⟩) (⟨k0, k1, k2, k3⟩) ?_
           rotate_left 1
           · intro u
             go_simp
             try simp only [d1]
             try simp only [d2]
             try simp only [d3]
             try simp only [d4]
             try simp only [d5]
             try with_reducible rfl
           simp only [Act.put, List.setIfInBounds_toArray, List.set_cons_zero, List.set_cons_succ])
        | (refine mv_free _ (Or.inr ⟨by rfl, rfl⟩) (⟨k0, k1, k2, k3⟩) ?_
           simp only [Act.put, List.setIfInBounds_toArray, List.set_cons_zero, List.set_cons_succ])
    iterate 1
      first
        | (refine mv_take ?_ (Or.inl ⟨by rfl, ?_⟩) (⟨k0, k1, k2, k3⟩) ?_
           rotate_left 1
           · intro u hu
             (try dsimp only at hu)
             go_simp
             try with_reducible rfl
           simp only [Act.put, List.setIfInBounds_toArray, List.set_cons_zero, List.set_cons_succ])
        | (refine mv_take _ (Or.inr ⟨by rfl, rfl⟩) (⟨k0, k1, k2, k3⟩) ?_
           simp only [Act.put, List.setIfInBounds_toArray, List.set_cons_zero, List.set_cons_succ])
    iterate 1
      first
        | (refine mv_free ?_ (Or.inl ⟨by rfl, ?_⟩) (⟨k0, k1, k2, k3⟩) ?_
           rotate_left 1
           · intro u
             go_simp
             try simp only [d1]
             try simp only [d2]
             try simp only [d3]
             try simp only [d4]
             try simp only [d5]
             try with_reducible rfl
           simp only [Act.put, List.setIfInBounds_toArray, List.set_cons_zero, List.set_cons_succ])
        | (refine mv_free _ (Or.inr ⟨by rfl, rfl⟩) (⟨k0, k1, k2, k3⟩) ?_
           simp only [Act.put, List.setIfInBounds_toArray, List.set_cons_zero, List.set_cons_succ])
    iterate 1
      first
        | (refine mv_take ?_ (Or.inl ⟨by rfl, ?_⟩) (⟨k0, k1, k2, k3⟩) ?_
           rotate_left 1
           · intro u hu
             (try dsimp only at hu)
             go_simp
             try with_reducible rfl
           simp only [Act.put, List.setIfInBounds_toArray, List.set_cons_zero, List.set_cons_succ])
        | (refine mv_take _ (Or.inr ⟨by rfl, rfl⟩) (⟨k0, k1, k2, k3⟩) ?_
           simp only [Act.put, List.setIfInBounds_toArray, List.set_cons_zero, List.set_cons_succ])
    iterate 1
      first
        | (refine mv_free ?_ (Or.inl ⟨by rfl, ?_⟩) (⟨k0, k1, k2, k3⟩) ?_
           rotate_left 1
           · intro u
             go_simp
             try simp only [d1]
             try simp only [d2]
             try simp only [d3]
             try simp only [d4]
             try simp only [d5]
             try with_reducible rfl
           simp only [Act.put, List.setIfInBounds_toArray, List.set_cons_zero, List.set_cons_succ])
        | (refine mv_free _ (Or.inr ⟨by rfl, rfl⟩) (⟨k0, k1, k2, k3⟩) ?_
           simp only [Act.put, List.setIfInBounds_toArray, List.set_cons_zero, List.set_cons_succ])
    iterate 1
      first
        | (refine mv_take ?_ (Or.inl ⟨by rfl, ?_⟩) (⟨k0, k1, k2, k3⟩) ?_
           rotate_left 1
           · intro u hu
             (try dsimp only at hu)
             go_simp
             try with_reducible rfl
           simp only [Act.put, List.setIfInBounds_toArray, List.set_cons_zero, List.set_cons_succ])
        | (refine mv_take _ (Or.inr ⟨by rfl, rfl⟩) (⟨k0, k1, k2, k3⟩) ?_
           simp only [Act.put, List.setIfInBounds_toArray, List.set_cons_zero, List.set_cons_succ])
    refine mv_step (fun K hK => ?_)
    go_simp
    refine (T0.out _).mono ?_
    rintro e w7 ⟨rfl, rfl⟩
    go_wp2_with fail
    refine hK.out _ _ _ (fun u hu => hu) (⟨k0, k1, k2, k3⟩) ?_
    clear hK K
    refine mv_step (fun K hK => ?_)
    go_simp
    refine (T1.out _).mono ?_
    rintro e w8 ⟨rfl, rfl⟩
    go_wp2_with fail
    refine hK.out _ _ _ (fun u hu => hu) (⟨k0, k1, k2, k3⟩) ?_
    clear hK K
    iterate 3
      first
        | (refine mv_free ?_ (Or.inl ⟨by rfl, ?_⟩) (⟨k0, k1, k2, k3⟩) ?_
           rotate_left 1
           · intro u
             go_simp
             try simp only [d1]
             try simp only [d2]
             try simp only [d3]
             try simp only [d4]
             try simp only [d5]
             try with_reducible rfl
           simp only [Act.put, List.setIfInBounds_toArray, List.set_cons_zero, List.set_cons_succ])
        | (refine mv_free _ (Or.inr ⟨by rfl, rfl⟩) (⟨k0, k1, k2, k3⟩) ?_
           simp only [Act.put, List.setIfInBounds_toArray, List.set_cons_zero, List.set_cons_succ])
    iterate 1
      first
        | (refine mv_take ?_ (Or.inl ⟨by rfl, ?_⟩) (⟨k0, k1, k2, k3⟩) ?_
           rotate_left 1
           · intro u hu
             (try dsimp only at hu)
             go_simp
             try with_reducible rfl
           simp only [Act.put, List.setIfInBounds_toArray, List.set_cons_zero, List.set_cons_succ])
        | (refine mv_take _ (Or.inr ⟨by rfl, rfl⟩) (⟨k0, k1, k2, k3⟩) ?_
           simp only [Act.put, List.setIfInBounds_toArray, List.set_cons_zero, List.set_cons_succ])
    iterate 1
      first
        | (refine mv_free ?_ (Or.inl ⟨by rfl, ?_⟩) (⟨k0, k1, k2, k3⟩) ?_
           rotate_left 1
           · intro u
             go_simp
             try simp only [d1]
             try simp only [d2]
             try simp only [d3]
             try simp only [d4]
             try simp only [d5]
             try with_reducible rfl
           simp only [Act.put, List.setIfInBounds_toArray, List.set_cons_zero, List.set_cons_succ])
        | (refine mv_free _ (Or.inr ⟨by rfl, rfl⟩) (⟨k0, k1, k2, k3⟩) ?_
           simp only [Act.put, List.setIfInBounds_toArray, List.set_cons_zero, List.set_cons_succ])
    iterate 1
      first
        | (refine mv_take ?_ (Or.inl ⟨by rfl, ?_⟩) (⟨k0, k1, k2, k3⟩) ?_
           rotate_left 1
           · intro u hu
             (try dsimp only at hu)
             go_simp
             try with_reducible rfl
           simp only [Act.put, List.setIfInBounds_toArray, List.set_cons_zero, List.set_cons_succ])
        | (refine mv_take _ (Or.inr ⟨by rfl, rfl⟩) (⟨k0, k1, k2, k3⟩) ?_
           simp only [Act.put, List.setIfInBounds_toArray, List.set_cons_zero, List.set_cons_succ])
    refine mv_step (fun K hK => ?_)
    go_simp
    refine (T0b.out _).mono ?_
    rintro e w9 ⟨rfl, rfl⟩
    go_wp2_with fail
    refine hK.out _ _ _ (fun u hu => hu) (⟨k0, k1, k2, k3⟩) ?_
    clear hK K
    iterate 3
      first
        | (refine mv_free ?_ (Or.inl ⟨by rfl, ?_⟩) (⟨k0, k1, k2, k3⟩) ?_
           rotate_left 1
           · intro u
             go_simp
             try simp only [d1]
             try simp only [d2]
             try simp only [d3]
             try simp only [d4]
             try simp only [d5]
             try with_reducible rfl
           simp only [Act.put, List.setIfInBounds_toArray, List.set_cons_zero, List.set_cons_succ])
        | (refine mv_free _ (Or.inr ⟨by rfl, rfl⟩) (⟨k0, k1, k2, k3⟩) ?_
           simp only [Act.put, List.setIfInBounds_toArray, List.set_cons_zero, List.set_cons_succ])
    refine mv_step (fun K hK => ?_)
    go_simp
    refine (lives09 _).mono ?_
    rintro e wz ⟨rfl, hbz⟩
    have hbz := hb4.drew.trans (hbz.mono (by have := hb4.size; have := hz.out; show _ ≤ w4.heap.size; omega))
    obtain ⟨k0, k1, k2, k3⟩ := hcs.out _ hbz
    go_wp2_with fail
    refine hK.out _ _ _ (fun u hu => hu) (⟨k0, k1, k2, k3⟩) ?_
    clear hK K
    iterate 2
      first
        | (refine mv_free ?_ (Or.inl ⟨by rfl, ?_⟩) (⟨k0, k1, k2, k3⟩) ?_
           rotate_left 1
           · intro u
             go_simp
             try simp only [d1]
             try simp only [d2]
             try simp only [d3]
             try simp only [d4]
             try simp only [d5]
             try with_reducible rfl
           simp only [Act.put, List.setIfInBounds_toArray, List.set_cons_zero, List.set_cons_succ])
        | (refine mv_free _ (Or.inr ⟨by rfl, rfl⟩) (⟨k0, k1, k2, k3⟩) ?_
           simp only [Act.put, List.setIfInBounds_toArray, List.set_cons_zero, List.set_cons_succ])
    refine mv_done ?_
    go_wp2
    go_ret
    exact ⟨rfl, hb0.out.trans (hbz.mono (by omega))⟩
  · have hc : x1 < x0 ∨ (x0 ≤ x1 ∧ y1 < y0) := by omega
    clear hin a1 a2 b1 b2
    rcases hc with h | ⟨h, h2⟩
    all_goals
      go_enter Try.func13, Try.ntmps13
      go_wp2_with fail
      rw [← eV.out]
      obtain ⟨k0, k1, k2, k3⟩ := hcs.out _ (Below.refl _ _)
      go_wp2_with fail
      refine (lives09 _).mono ?_
      rintro e w4 ⟨rfl, hb4⟩
      go_wp2
      go_ret
      exact ⟨rfl, hb0.out.trans (hb4.mono hb0.out.size)⟩
end Go.Proofs.Ytbhoallcoblcoaa
