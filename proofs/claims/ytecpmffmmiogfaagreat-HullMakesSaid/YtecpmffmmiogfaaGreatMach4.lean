/- Package mach: greater numbers have ratios as great, or greater; the number of a ratio; walked. -/
import Derived.Test.YtecpmffmmiogfaaGreatMach3
namespace Go.Proofs.YtecpmffmmiogfaaGreat
open Go.ChangeShapes Go.WideShapes Go.ChangeAt Go.RowKit
set_option linter.unusedVariables false
set_option linter.unusedSimpArgs false

theorem mul_mn {a b c d : Int} (h0 : 0 ≤ a) (h1 : a ≤ b) (h2 : 0 ≤ c) (h3 : c ≤ d) : a * c ≤ b * d := Int.mul_le_mul h1 h3 h2 (by omega)
theorem mcX_mono {a b : Int} (h0 : 0 ≤ a) (h : a ≤ b) (h1 : b ≤ 10000) : mcX a ≤ mcX b := by
  have := mul_mn h0 h h0 h
  unfold mcX
  omega
theorem mcC_mono {a b : Int} (h0 : 0 ≤ a) (h : a ≤ b) (h1 : b ≤ 10000) : mcC a ≤ mcC b := by
  have x := mcX_mono h0 h h1
  have p := (mcX_bd h0 (by omega : a ≤ 10000)).2.1
  unfold mcC
  generalize mcX a = X at *
  generalize mcX b = Y at *
  have q := mul_mn (show 0 ≤ X by omega) x (show 0 ≤ X by omega) x
  have r := Int.mul_nonneg (show 0 ≤ X by omega) (show 0 ≤ X by omega)
  have s := mul_mn (show 0 ≤ X * X / 1073741824 by omega) (show X * X / 1073741824 ≤ Y * Y / 1073741824 by omega) (show 0 ≤ X by omega) x
  omega
theorem mcS_mono {a b : Int} (h0 : 0 ≤ a) (h : a ≤ b) (h1 : b ≤ 10000) : mcS a ≤ mcS b := by
  have x := mcX_mono h0 h h1
  have c := mcC_mono h0 h h1
  have p := (mcX_bd h0 (by omega : a ≤ 10000)).2.1
  have q := (mcC_bd h0 (by omega : a ≤ 10000)).2.2.1
  have r := rt_mono (mcX a * 1073741824) (mcX b * 1073741824) (by omega) (by omega)
  have s := (mcS_bd h0 (by omega : a ≤ 10000)).2.1.1
  have t := mul_mn q c s r
  unfold mcS
  omega
theorem mcA_mono : ∀ (i d : Nat), i + d ≤ 10 → mcA i ≤ mcA (i + d)
  | i, 0, _ => Int.le_refl _
  | i, d + 1, h => by
    have a := mcA_mono i d (by omega)
    have b := mcA_step (i + d) (by omega)
    rw [show i + (d + 1) = i + d + 1 by omega]
    omega
/-- A place above Mach 1: its point and how far behind it. -/
theorem mcB_is {m : Int} (h0 : 10000 ≤ m) (h1 : m < 20000) : ∃ (K : Nat) (L : Int), K < 10 ∧ 0 ≤ L ∧ L ≤ 999 ∧ m = 10000 + 1000 * (K : Int) + L ∧ mcB m = mcA K + (mcA (K + 1) - mcA K) * L / 1000 := by
  refine ⟨((m - 10000) / 1000).toNat, (m - 10000) % 1000, by omega, by omega, by omega, by omega, rfl⟩
theorem mcB_bd {m : Int} {K : Nat} {L : Int} (hK : K < 10) (l0 : 0 ≤ L) (l1 : L ≤ 999) (e : mcB m = mcA K + (mcA (K + 1) - mcA K) * L / 1000) : mcA K ≤ mcB m ∧ mcB m ≤ mcA (K + 1) := by
  have s := mcA_step K hK
  rw [e]
  obtain ⟨D, hD⟩ : ∃ D, mcA (K + 1) - mcA K = D := ⟨_, rfl⟩
  rw [hD]
  have p := Int.mul_nonneg (show 0 ≤ D by omega) l0
  have q := mul_mn (show 0 ≤ D by omega) (Int.le_refl D) l0 l1
  omega
theorem mcB_mono {a b : Int} (h0 : 10000 ≤ a) (h : a ≤ b) (h1 : b < 20000) : mcB a ≤ mcB b := by
  obtain ⟨K, L, k1, l0, l1, ea, va⟩ := mcB_is h0 (by omega)
  obtain ⟨J, M, k2, m0, m1, eb, vb⟩ := mcB_is (show 10000 ≤ b by omega) h1
  have ba := mcB_bd k1 l0 l1 va
  have bb := mcB_bd k2 m0 m1 vb
  by_cases e : K = J
  · subst e
    rw [va, vb]
    have s := mcA_step K k1
    have p := Int.mul_le_mul_of_nonneg_left (show L ≤ M by omega) (show 0 ≤ mcA (K + 1) - mcA K by omega)
    have q := Int.ediv_le_ediv (show (0 : Int) < 1000 by omega) p
    omega
  · have := mcA_mono (K + 1) (J - (K + 1)) (by omega)
    rw [show K + 1 + (J - (K + 1)) = J by omega] at this
    omega
theorem mcS_top : mcS 10000 = 958775376 := by
  have x : mcX 10000 = 1288490188 := by decide
  have c : mcC 10000 = 1855425867 := by unfold mcC; rw [x]; decide
  have r : rt (1288490188 * 1073741824) = 1176225235 := rt_eq ⟨by omega, by omega, by omega⟩
  unfold mcS
  rw [c, x, r]
  decide
theorem mcT_mono {a b : Int} (h0 : 0 ≤ a) (h : a ≤ b) (h1 : b ≤ 20000) : mcT a ≤ mcT b := by
  have cross : mcS 10000 ≤ mcB 10001 := by rw [mcS_top]; decide +kernel
  unfold mcT
  by_cases ha : a ≤ 10000
  · rw [if_pos ha]
    by_cases hb : b ≤ 10000
    · rw [if_pos hb]; exact mcS_mono h0 h hb
    · rw [if_neg hb]
      have x := mcS_mono h0 ha (Int.le_refl _)
      by_cases h2 : b = 20000
      · rw [if_pos h2]
        have : mcB 10001 ≤ mcA 10 := by decide +kernel
        omega
      · rw [if_neg h2]
        have := mcB_mono (show (10000 : Int) ≤ 10001 by omega) (show 10001 ≤ b by omega) (by omega)
        omega
  · rw [if_neg ha, if_neg (show ¬ b ≤ 10000 by omega)]
    by_cases h3 : a = 20000
    · rw [if_pos h3, if_pos (show b = 20000 by omega)]; exact Int.le_refl _
    · rw [if_neg h3]
      by_cases h2 : b = 20000
      · rw [if_pos h2]
        obtain ⟨K, L, k1, l0, l1, ea, va⟩ := mcB_is (show 10000 ≤ a by omega) (by omega)
        have ba := mcB_bd k1 l0 l1 va
        have := mcA_mono (K + 1) (10 - (K + 1)) (by omega)
        rw [show K + 1 + (10 - (K + 1)) = 10 by omega] at this
        omega
      · rw [if_neg h2]; exact mcB_mono (by omega) h (by omega)
theorem mcR_mono {a b : Int} (h : a ≤ b) : mcR a ≤ mcR b := by
  have x := mcM_bd a
  have y := mcM_bd b
  unfold mcR
  exact mcT_mono x.1 (by unfold mcM; omega) y.2

/-- The least place, as a function. -/
def lpl (p : Nat → Bool) : Nat → Nat
  | 0 => 0
  | n + 1 => if lpl p n < n then lpl p n else if p n then n else n + 1
theorem lpl_is (p : Nat → Bool) (hm : ∀ a b, a ≤ b → p a = true → p b = true) : ∀ n : Nat, lpl p n ≤ n ∧ (∀ t, t < lpl p n → p t = false) ∧ ∀ t, lpl p n ≤ t → t < n → p t = true
  | 0 => ⟨Nat.le_refl _, fun t h => absurd h (Nat.not_lt_zero _), fun t _ h => absurd h (Nat.not_lt_zero _)⟩
  | n + 1 => by
    obtain ⟨h1, h2, h3⟩ := lpl_is p hm n
    unfold lpl
    by_cases hr : lpl p n < n
    · rw [if_pos hr]
      exact ⟨by omega, h2, fun t a b => by
        by_cases e : t < n
        · exact h3 t a e
        · exact hm (lpl p n) t a (h3 _ (Nat.le_refl _) hr)⟩
    · rw [if_neg hr]
      have e : lpl p n = n := by omega
      rw [e] at h2
      cases hp : p n
      · rw [if_neg (by simp)]
        exact ⟨Nat.le_refl _, fun t ht => by
          by_cases e2 : t < n
          · exact h2 t e2
          · obtain rfl : t = n := by omega
            exact hp, fun t a b => by omega⟩
      · rw [if_pos rfl]
        exact ⟨by omega, h2, fun t a b => by
          obtain rfl : t = n := by omega
          exact hp⟩
def mcP (r : Int) (i : Nat) : Bool := decide (r < mcR (i : Int))
def mcK (r : Int) : Nat := lpl (mcP r) 20001
/-- The Mach number of a ratio. -/
def mcO (r : Int) : Int := ((mcK r - 1 : Nat) : Int)
theorem mcK_is (r : Int) : mcK r ≤ 20001 ∧ (∀ t, t < mcK r → mcP r t = false) ∧ ∀ t, mcK r ≤ t → t < 20001 → mcP r t = true :=
  lpl_is (mcP r) (fun a b h hp => by
    have := mcR_mono (show (a : Int) ≤ (b : Int) by omega)
    unfold mcP at *
    simp only [decide_eq_true_eq] at *
    omega) 20001

set_option maxRecDepth 100000 in
set_option maxHeartbeats 4000000 in
theorem mof1_any (b : Nat) (r : Int) (i : Nat) (hi : i < 20001) (w : World) (h0 : w.cell? ⟨b, 0, none⟩ = some (.int .i64 r)) (hlt : b < w.heap.size) :
    Calls Tryz.prog 98 (#[.int .i64 (i : Nat)] ++ #[.pointer (some ⟨b, 0, none⟩)]) w fun e w' => e = .returned (.bool (mcP r i)) ∧ Below w.heap.size w w' := by
  have RT := Lib.hid (fun u => mratio_any (i : Int) u)
  have HP := Lib.hid (show mcP r i = decide (r < mcR (i : Int)) from rfl)
  generalize mcR (i : Int) = R at *
  generalize mcP r i = q at *
  have HL := Lib.hid hlt
  clear hlt hi
  go_enter Tryz.func98, Tryz.ntmps98
  go_wp2_with fail
  refine region_moves (fun u => u.cell? ⟨b, 0, none⟩ = some (.int .i64 r)) [] [(.free, 0), (.take, 2), (.step, 1), (.free, 3), (.free, 4)] _ (by kernel_rfl) (by kernel_rfl) (by kernel_rfl) (by kernel_rfl) (by decide) rfl (fun _ _ _ _ _ h => h) ?_
  simp only [List.filterMap_cons, List.filterMap_nil, List.getElem?_toArray, List.getElem?_cons_zero, List.getElem?_cons_succ, Option.map_some]
  iterate 1
    first
      | (refine mv_free ?_ (Or.inl ⟨by rfl, ?_⟩) (h0) ?_
         rotate_left 1
         · intro u
           go_simp
           try with_reducible rfl
         simp only [Act.put, List.setIfInBounds_toArray, List.set_cons_zero, List.set_cons_succ])
      | (refine mv_free _ (Or.inr ⟨by rfl, rfl⟩) (h0) ?_
         simp only [Act.put, List.setIfInBounds_toArray, List.set_cons_zero, List.set_cons_succ])
  iterate 1
    first
      | (refine mv_take ?_ (Or.inl ⟨by rfl, ?_⟩) (h0) ?_
         rotate_left 1
         · intro u hu
           (try dsimp only at hu)
           go_simp
           try with_reducible rfl
         simp only [Act.put, List.setIfInBounds_toArray, List.set_cons_zero, List.set_cons_succ])
      | (refine mv_take _ (Or.inr ⟨by rfl, rfl⟩) (h0) ?_
         simp only [Act.put, List.setIfInBounds_toArray, List.set_cons_zero, List.set_cons_succ])
  refine mv_step (fun K hK => ?_)
  go_simp
  refine (RT.out _).mono ?_
  rintro e w1 ⟨rfl, hb1⟩
  have hbw := (Below.refl w.heap.size w).drew.trans hb1
  have h1 := (bc hbw HL.out).trans h0
  clear hb1
  go_wp2_with fail
  refine hK.out _ _ _ (fun u hu => hu) (h1) ?_
  clear hK K
  iterate 2
    first
      | (refine mv_free ?_ (Or.inl ⟨by rfl, ?_⟩) (h1) ?_
         rotate_left 1
         · intro u
           go_simp
           try with_reducible rfl
         simp only [Act.put, List.setIfInBounds_toArray, List.set_cons_zero, List.set_cons_succ])
      | (refine mv_free _ (Or.inr ⟨by rfl, rfl⟩) (h1) ?_
         simp only [Act.put, List.setIfInBounds_toArray, List.set_cons_zero, List.set_cons_succ])
  refine mv_done ?_
  go_wp2
  go_ret
  exact ⟨ret_bool HP.out.symm, hbw⟩

set_option maxRecDepth 100000 in
set_option maxHeartbeats 4000000 in
theorem mof_any (r : Int) (w : World) : Calls Tryz.prog 69 #[.int .i64 r] w fun e w' => e = .returned (.int .i64 (mcO r)) ∧ Below w.heap.size w w' := by
  obtain ⟨k1, k2, k3⟩ := mcK_is r
  obtain ⟨V, eV, hb0, hz, hc⟩ : ∃ V, V = w.alloc (.cells #[.int .i64 r] 2) ∧ Below w.heap.size w V ∧ V.heap.size = w.heap.size + 1 ∧ V.cell? ⟨w.heap.size, 0, none⟩ = some (.int .i64 r) := ⟨_, rfl, (by repeat (first | exact Below.refl _ _ | assumption | apply Below.drew | apply below_drewN | (refine Below.alloc ?_ (by first | exact Nat.le_refl _ | omega | (simp <;> omega)) _) | (refine Below.setCell ?_ (by first | exact Nat.le_refl _ | omega | (simp <;> omega)) _))), by simp, by go_simp⟩
  have SR := search_any 98 #[.pointer (some ⟨w.heap.size, 0, none⟩)] 20001 (mcK r) (mcP r) V (enters_of Tryz.func98 (by kernel_rfl) rfl) (by omega) k1 k2 k3
    (fun u i hi hb => mof1_any w.heap.size r i hi u ((bc hb (by omega)).trans hc) (by have := hb.size; omega))
  replace SR : Calls Tryz.prog 31 #[.int .i64 20001, .func (.func 98) #[] #[.pointer (some ⟨w.heap.size, 0, none⟩)]] V fun e w' => e = .returned (.int .i64 (mcK r)) ∧ Below V.heap.size V w' := SR
  replace SR := Lib.hid SR
  have HV := Lib.hid (show mcO r = ((mcK r - 1 : Nat) : Int) from rfl)
  generalize mcO r = O at *
  clear k2 k3
  generalize mcK r = K at *
  replace hb0 := Lib.hid hb0
  replace hz := Lib.hid hz
  replace eV := Lib.hid eV
  rcases (show K = 0 ∨ 1 ≤ K by omega) with rfl | hk
  · have SR := SR.out
    rw [show ((0 : Nat) : Int) = 0 from rfl] at SR
    replace SR := Lib.hid SR
    go_enter Tryz.func69, Tryz.ntmps69
    go_wp2_with fail
    rw [← eV.out]
    refine SR.out.mono ?_
    rintro e w1 ⟨rfl, hb1⟩
    go_wp2
    go_ret
    exact ⟨ret_int (by rw [HV.out]; rfl), hb0.out.trans (hb1.mono hb0.out.size)⟩
  · have hk' : (1 : Int) ≤ (K : Int) := by omega
    go_enter Tryz.func69, Tryz.ntmps69
    go_wp2_with fail
    rw [← eV.out]
    refine SR.out.mono ?_
    rintro e w1 ⟨rfl, hb1⟩
    go_wp2
    all_goals first | (exfalso; omega) | skip
    go_ret
    exact ⟨ret_int (by rw [HV.out]; omega), hb0.out.trans (hb1.mono hb0.out.size)⟩
end Go.Proofs.YtecpmffmmiogfaaGreat
