/- Package bus: Due, Load; the law's example; the law BusPlans; walked. -/
import Derived.Test.YtcpmdgbogdikiaaBus3
import Derived.Test.YtcpmdgbogdikiaaBus4
namespace Go.Proofs.Ytcpmdgbogdikiaa
open Go.ChangeShapes Go.WideShapes Go.ChangeAt Go.RowKit
set_option linter.unusedVariables false
set_option linter.unusedSimpArgs false
def DuL (n : Nat) (N P F : Nat → Int) (t : Int) : List Nat := if rtB n N P F = true ∧ 0 ≤ t then duL P F t n else []
set_option maxRecDepth 100000 in
set_option maxHeartbeats 4000000 in
theorem bDue (a : Option Addr) (cap n : Nat) (N P F : Nat → Int) (t : Int) (w : World) (h : Pl w a n N P F) (hcap : n ≤ cap) (hn : n ≤ 1000) (ht : t ≤ 9223372036854775807) : Calls Try.prog 9 #[.slice a n cap, .int .i64 t] w fun e w' => ∃ x', e = .returned x' ∧ Og 3 w.heap.size x' (lvals (DuL n N P F t)) w' ∧ Below w.heap.size w w' := by
  have RT := bright a cap n N P F w h hcap (by unfold maxLen; omega)
  obtain ⟨p, ep⟩ : ∃ p, rtB n N P F = p := ⟨_, rfl⟩
  rw [ep] at RT
  replace RT := Lib.hid RT
  cases p
  · have hD : DuL n N P F t = [] := if_neg (fun q => by rw [ep] at q; cases q.1)
    rw [hD]
    go_enter Try.func9, Try.ntmps9
    go_wp2_with fail
    refine RT.out.mono ?_
    rintro e w1 ⟨rfl, hb⟩
    go_wp2
    go_ret
    exact ⟨_, rfl, Og.nil _ _ _, hb⟩
  · by_cases z : t < 0
    · have y : decide (t < 0) = true := decide_eq_true z
      have hD : DuL n N P F t = [] := if_neg (fun q => by omega)
      rw [hD]
      go_enter Try.func9, Try.ntmps9
      go_wp2_with fail
      refine RT.out.mono ?_
      rintro e w1 ⟨rfl, hb⟩
      go_wp2
      go_ret
      exact ⟨_, rfl, Og.nil _ _ _, hb⟩
    · have y : decide (t < 0) = false := decide_eq_false z
      have hD : DuL n N P F t = duL P F t n := if_pos ⟨ep, by omega⟩
      rw [hD]
      have hr := of_decide_eq_true ep
      have HH := Lib.hid (fun u (k : Below w.heap.size w u) => h.below k)
      have HS := Lib.hid (fun i (hi : i < n) => (hr.2.2 i hi).1)
      have hn2 : n ≤ 32 := by omega
      clear h hr hD hcap
      go_enter Try.func9, Try.ntmps9
      go_wp2_with fail
      refine RT.out.mono ?_
      rintro e w1 ⟨rfl, hb⟩
      replace hb := Lib.hid hb
      have BD := Lib.hid (bdue a n cap t w1)
      go_wp2_with fail
      refine BD.out.mono ?_
      rintro e w2 ⟨rfl, ew⟩
      have hb2 := ((Below.refl w1.heap.size w1).alloc (Nat.le_refl _) (.cells #[.slice a n cap] 22)).alloc (by simp) (.cells #[.int .i64 t] 3)
      have c0 : w2.cell? ⟨w1.heap.size, 0, none⟩ = some (.slice a n cap) := by rw [ew]; go_simp
      have c1 : w2.cell? ⟨w1.heap.size + 1, 0, none⟩ = some (.int .i64 t) := by rw [ew]; go_simp
      have hs : w2.heap.size = w1.heap.size + 2 := by rw [ew]; simp
      rw [← ew] at hb2
      have hb3 := Lib.hid (show Below w.heap.size w w2 from hb.out.trans (hb2.mono hb.out.size))
      have CO := Lib.hid (bcollect w1.heap.size (w1.heap.size + 1) a n cap N P F t w2 hn2 (by omega) (by omega) (by omega) HS.out c0 c1 (HH.out w2 hb3.out))
      clear ew c0 c1 hs hb2 BD RT
      go_wp2_with fail
      have CC : Calls Try.prog 22 #[.func (.func 29) #[] #[.pointer (some ⟨w1.heap.size, 0, none⟩), .pointer (some ⟨w1.heap.size + 1, 0, none⟩)]] w2 fun e w' => ∃ x', e = .returned x' ∧ Og 3 w2.heap.size x' (lvals (duL P F t n)) w' ∧ Below w2.heap.size w2 w' := by
        go_enter Try.func22, Try.ntmps22
        go_wp2_with fail
        refine CO.out.mono ?_
        rintro e w3 ⟨x', rfl, hO, hb5⟩
        replace hO := Lib.hid hO
        go_wp2
        go_ret
        exact ⟨_, rfl, hO.out, hb5⟩
      refine CC.mono ?_
      rintro e w3 ⟨x', rfl, hO, hb5⟩
      replace hO := Lib.hid (hO.mono (B' := w.heap.size) hb3.out.size)
      have hb6 := Lib.hid (show Below w.heap.size w w3 from hb3.out.trans (hb5.mono hb3.out.size))
      clear hb5 CO CC
      go_wp2
      go_ret
      exact ⟨_, rfl, hO.out, hb6.out⟩
def ldS (P : Nat → Int) : Nat → Int
  | 0 => 0
  | k + 1 => ldS P k + 1000000 / P k
theorem ldS_bd {n : Nat} {N P F : Nat → Int} (h : ∀ i, i < n → srB (N i) (P i) (F i) = true) : ∀ k, k ≤ n → 0 ≤ ldS P k ∧ ldS P k ≤ 1000000 * (k : Int)
  | 0, _ => by simp [ldS]
  | k + 1, hk => by
    have ih := ldS_bd h k (by omega)
    have hs := of_decide_eq_true (h k (by omega))
    have e1 : 0 ≤ 1000000 / P k := Int.ediv_nonneg (by omega) (by omega)
    have e2 : 1000000 / P k ≤ 1000000 := Int.ediv_le_self _ (by omega)
    unfold ldS
    omega
set_option maxRecDepth 100000 in
set_option maxHeartbeats 4000000 in
theorem bload (a : Option Addr) (cap n : Nat) (N P F : Nat → Int) (w : World) (h : Pl w a n N P F) (hcap : n ≤ cap) (hn : n ≤ 1000) : Calls Try.prog 10 #[.slice a n cap] w fun e w' => e = .returned (.tuple #[.int .i64 (if rtB n N P F = true then ldS P n / 1000 else 0), .bool (rtB n N P F)]) ∧ Below w.heap.size w w' := by
  have RT := bright a cap n N P F w h hcap (by unfold maxLen; omega)
  obtain ⟨p, ep⟩ : ∃ p, rtB n N P F = p := ⟨_, rfl⟩
  rw [ep] at RT ⊢
  replace RT := Lib.hid RT
  cases p
  · go_enter Try.func10, Try.ntmps10
    go_wp2_with fail
    refine RT.out.mono ?_
    rintro e w1 ⟨rfl, hb⟩
    go_wp2
    go_ret2
    exact ⟨rfl, hb⟩
  · rw [if_pos rfl]
    have hr := of_decide_eq_true ep
    have HH := Lib.hid (fun u (k : Below w.heap.size w u) => h.below k)
    have HS := Lib.hid (fun i (hi : i < n) => (hr.2.2 i hi).1)
    have LB := Lib.hid (ldS_bd (N := N) (F := F) HS.out)
    have hn2 : n ≤ 32 := by omega
    clear h hr hcap ep
    go_enter Try.func10, Try.ntmps10
    go_wp2_with fail
    refine RT.out.mono ?_
    rintro e w1 ⟨rfl, hb⟩
    replace hb := Lib.hid hb
    go_wp2_with fail
    go_loopw [4, 12] (fun s i v => ∃ k : Nat, k ≤ n ∧ s = .int .i64 (ldS P k) ∧ i = .int .i64 (k : Int) ∧ Hid (Below w.heap.size w v)) (fun _ i _ => n - (intOf i).toNat)
    case atStart => exact ⟨0, by omega, rfl, rfl, hb⟩
    case round =>
      obtain ⟨k, hk, rfl, rfl, hb2⟩ := hrel
      generalize wr = v at *
      have L1 := LB.out k hk
      by_cases hlt : k < n
      · obtain ⟨b, off, ea, hbb, k0, k1, k2⟩ := (HH.out v hb2.out).at hlt
        subst ea
        have hs := of_decide_eq_true (HS.out k hlt)
        have j1 : (k : Int) < (n : Int) := by omega
        have j2 : IntKind.i64.wrap ((k : Int) + 1) = (k : Int) + 1 := by rw [IntKind.wrap_i64]; omega
        have j3 : 0 ≤ (k : Int) := by omega
        have hbV := (Below.refl v.heap.size v).alloc (Nat.le_refl _) (.cells #[.int .i64 (N k), .int .i64 (P k), .int .i64 (F k)] 30)
        have hbW := Lib.hid (show Below w.heap.size w _ from hb2.out.trans (hbV.mono hb2.out.size))
        have p0 : ¬ P k = 0 := by omega
        have p1 : (P k == 0) = false := beq_eq_false_iff_ne.2 p0
        have e1 : 0 ≤ 1000000 / P k := Int.ediv_nonneg (by omega) (by omega)
        have e2 : 1000000 / P k ≤ 1000000 := Int.ediv_le_self _ (by omega)
        have tm : Int.tdiv 1000000 (P k) = 1000000 / P k := Int.tdiv_eq_ediv_of_nonneg (by omega)
        have w1 : IntKind.i64.wrap (1000000 / P k) = 1000000 / P k := by rw [IntKind.wrap_i64]; omega
        have w2 : IntKind.i64.wrap (ldS P k + 1000000 / P k) = ldS P k + 1000000 / P k := by rw [IntKind.wrap_i64]; omega
        have LE := Lib.hid (show ldS P (k + 1) = ldS P k + 1000000 / P k from rfl)
        obtain ⟨s, es⟩ : ∃ s, ldS P k = s := ⟨_, rfl⟩
        rw [es] at LE w2 ⊢
        clear hbV L1 es hs e1 e2
        go_wp2
        go_roundw
        case rel => exact ⟨k + 1, by omega, by rw [LE.out], by first | rfl | go_num, hbW⟩
        case measure => simp [intOf]; omega
      · obtain rfl : k = n := by omega
        have j1 : ¬ (k : Int) < (k : Int) := by omega
        have tm : Int.tdiv (ldS P k) 1000 = ldS P k / 1000 := Int.tdiv_eq_ediv_of_nonneg (by omega)
        have w1 : IntKind.i64.wrap (ldS P k / 1000) = ldS P k / 1000 := by rw [IntKind.wrap_i64]; omega
        skip
        go_wp2
        go_ret2
        exact ⟨rfl, hb2.out⟩
theorem li_box (w : World) : ∃ V, V = w.alloc (.cells #[.int .i64 1, .int .i64 5, .int .i64 2] 30) ∧ Below w.heap.size w V ∧ Pl V (some ⟨w.heap.size, 0, none⟩) 1 (fun _ => 1) (fun _ => 5) (fun _ => 2) :=
  ⟨_, rfl, (Below.refl _ _).alloc (Nat.le_refl _) _, .inr ⟨w.heap.size, 0, rfl, by simp, fun i hi => by
    obtain rfl : i = 0 := by omega
    exact ⟨by go_simp, by go_simp, by go_simp⟩⟩⟩
set_option maxRecDepth 100000 in
set_option maxHeartbeats 4000000 in
theorem lives46 (w : World) : Calls Try.prog 8 #[] w fun e w' => e = .returned (.bool true) ∧ Below w.heap.size w w' := by
  obtain ⟨V, eV, hbV, hP⟩ := li_box w
  have D := Lib.hid (fun t (ht : t ≤ 9223372036854775807) u (k : Below V.heap.size V u) => bDue (some ⟨w.heap.size, 0, none⟩) 1 1 (fun _ => 1) (fun _ => 5) (fun _ => 2) t u (hP.below k) (by omega) (by omega) ht)
  have RT := Lib.hid (fun u (k : Below V.heap.size V u) => bright (some ⟨w.heap.size, 0, none⟩) 1 1 (fun _ => 1) (fun _ => 5) (fun _ => 2) u (hP.below k) (by omega) (by unfold maxLen; omega))
  have r0 : rtB 1 (fun _ => 1) (fun _ => 5) (fun _ => 2) = true := by decide
  have d2 : DuL 1 (fun _ => 1) (fun _ => 5) (fun _ => 2) 2 = [0] := by decide
  have d7 : DuL 1 (fun _ => 1) (fun _ => 5) (fun _ => 2) 7 = [0] := by decide
  have d8 : DuL 1 (fun _ => 1) (fun _ => 5) (fun _ => 2) 8 = [] := by decide
  replace eV := Lib.hid eV
  have hbV := Lib.hid hbV
  have D2 := D.out 2 (by omega) V (Below.refl _ _)
  rw [d2] at D2
  have D7 := fun u k => D.out 7 (by omega) u k
  rw [d7] at D7
  have D8 := fun u k => D.out 8 (by omega) u k
  rw [d8] at D8
  replace RT := RT.out
  rw [r0] at RT
  replace D2 := Lib.hid D2
  replace D7 := Lib.hid D7
  replace D8 := Lib.hid D8
  replace RT := Lib.hid RT
  clear D d2 d7 d8 r0 hP
  go_enter Try.func8, Try.ntmps8
  go_upto_region 2 with (fail)
  rw [← eV.out]
  go_wp2_with fail
  refine D2.out.mono ?_
  rintro e u1 ⟨x1, rfl, hO1, hb1⟩
  obtain ⟨a1, c1, rfl, -, -, -⟩ := hO1.row
  rw [show (lvals [0]).length = 1 from rfl]
  have h1 := Lib.hid hb1
  clear hO1 hb1 D2
  go_wp2_with fail
  refine (D7.out u1 h1.out).mono ?_
  rintro e u2 ⟨x2, rfl, hO1, hb2⟩
  obtain ⟨a2, c2, rfl, -, -, -⟩ := hO1.row
  rw [show (lvals [0]).length = 1 from rfl]
  have h2 := Lib.hid (show Below V.heap.size V u2 from h1.out.trans (hb2.mono h1.out.size))
  clear hO1 hb2 D7
  go_wp2_with fail
  refine (D8.out u2 h2.out).mono ?_
  rintro e u3 ⟨x3, rfl, hO1, hb3⟩
  obtain ⟨a3, c3, rfl, -, -, -⟩ := hO1.row
  rw [show (lvals []).length = 0 from rfl]
  have h3 := Lib.hid (show Below V.heap.size V u3 from h2.out.trans (hb3.mono h2.out.size))
  clear hO1 hb3 D8
  go_wp2_with fail
  refine (RT.out u3 h3.out).mono ?_
  rintro e u4 ⟨rfl, hb4⟩
  have h4 := Lib.hid (show Below w.heap.size w u4 from hbV.out.trans ((h3.out.trans (hb4.mono h3.out.size)).mono hbV.out.size))
  clear hb4
  go_wp2
  go_ret
  exact ⟨rfl, h4.out⟩
theorem duL_get {P F : Nat → Int} {t : Int} {i : Nat} (h : dtB (P i) (F i) t = true) : ∀ n, i < n → (duL P F t n)[(duL P F t i).length]? = some i ∧ (duL P F t i).length < (duL P F t n).length
  | 0, hn => by omega
  | n + 1, hn => by
    by_cases q : i = n
    · subst q
      rw [duL_yes h]
      simp
    · have ih := duL_get h n (by omega)
      cases d : dtB (P n) (F n) t with
      | true => rw [duL_yes d, List.getElem?_append_left ih.2, List.length_append]; exact ⟨ih.1, by omega⟩
      | false => rw [duL_no d]; exact ih
theorem du_dt {N P F t : Int} (hs : srB N P F = true) : duB P F t = dtB P F t := by
  have hs := of_decide_eq_true hs
  unfold duB dtB
  by_cases z : F ≤ t
  · have e : t % P = F ↔ (t - F) % P = 0 := by
      rw [← Int.emod_emod_of_dvd t (Int.dvd_refl P)]
      constructor
      · intro q
        have : t % P = F := by rwa [Int.emod_emod_of_dvd t (Int.dvd_refl P)] at q
        have h2 : t - F = P * (t / P) := by have := Int.emod_add_mul_ediv t P; omega
        rw [h2]; exact Int.mul_emod_right _ _
      · intro q
        rw [Int.emod_emod_of_dvd t (Int.dvd_refl P)]
        have h2 := Int.emod_add_mul_ediv (t - F) P
        rw [q] at h2
        have h3 : t = F + P * ((t - F) / P) := by omega
        rw [h3, Int.add_mul_emod_self_left]
        exact Int.emod_eq_of_lt (by omega) (by omega)
    by_cases q : t % P = F
    · rw [decide_eq_true ⟨z, q⟩, decide_eq_true ⟨z, e.1 q⟩]
    · rw [decide_eq_false (fun h => q h.2), decide_eq_false (fun h => q (e.2 h.2))]
  · rw [decide_eq_false (fun h => z h.1), decide_eq_false (fun h => z h.1)]
end Go.Proofs.Ytcpmdgbogdikiaa
