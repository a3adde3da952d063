/- The law MatrixUnit; walked. -/
import Derived.Test.YtbbmkmkalghaeaaMat5
namespace Go.Proofs.Ytbbmkmkalghaeaa
open Go.ChangeShapes Go.WideShapes Go.ChangeAt Go.RowKit
set_option linter.unusedVariables false
set_option linter.unusedSimpArgs false
def allW (X : Nat → Int) : Nat → Bool
  | 0 => true
  | k + 1 => allW X k && (clp (X k) == X k)
theorem allW_at {X : Nat → Int} : ∀ {n : Nat}, allW X n = true → ∀ t, t < n → clp (X t) = X t
  | 0, _, t, h => absurd h (Nat.not_lt_zero t)
  | n + 1, h, t, ht => by
    simp only [allW, Bool.and_eq_true, beq_iff_eq] at h
    rcases (show t < n ∨ t = n by omega) with q | q
    · exact allW_at h.1 t q
    · rw [q]; exact h.2
theorem dt_unit (A : Nat → Int) (c : Nat) (hc : c < 3) (hA : clp (A c) = A c) : dtI A (fun k => unt (k * 3 + c)) = A c := by
  unfold dtI
  rcases (show c = 0 ∨ c = 1 ∨ c = 2 by omega) with rfl | rfl | rfl
  all_goals
    simp only [unt]
    simp [prd_one, prd_zero, hA]
theorem dt_comm (A B : Nat → Int) : dtI A B = dtI B A := by
  unfold dtI
  rw [prd_comm (A 0), prd_comm (A 1), prd_comm (A 2)]
theorem mul_unit {X : Nat → Int} (h : ∀ t, t < 9 → clp (X t) = X t) (t : Nat) (ht : t < 9) : mul X unt t = X t := by
  unfold mul
  rw [dt_unit (fun k => X (t / 3 * 3 + k)) (t % 3) (by omega) (h _ (by omega))]
  congr 1; omega
theorem unit_mul {X : Nat → Int} (h : ∀ t, t < 9 → clp (X t) = X t) (t : Nat) (ht : t < 9) : mul unt X t = X t := by
  unfold mul
  rw [dt_comm, dtI_eq (C := fun k => X (k * 3 + t % 3)) (D := fun k => unt (k * 3 + t / 3)) (fun k hk => rfl) (fun k hk => by
    show unt _ = unt _
    unfold unt
    have e : (t / 3 * 3 + k) % 4 = 0 ↔ (k * 3 + t / 3) % 4 = 0 := by omega
    by_cases q : (t / 3 * 3 + k) % 4 = 0
    · rw [if_pos q, if_pos (e.1 q)]
    · rw [if_neg q, if_neg (fun z => q (e.2 z))]),
    dt_unit (fun k => X (k * 3 + t % 3)) (t / 3) (by omega) (h _ (by omega))]
  show X (t / 3 * 3 + t % 3) = X t
  congr 1; omega
theorem apl_unit {A : Nat → Int} (h : ∀ t, t < 3 → clp (A t) = A t) (t : Nat) (ht : t < 3) : apl unt A t = A t := by
  unfold apl
  rw [dt_comm, dtI_eq (C := A) (D := fun k => unt (k * 3 + t)) (fun k hk => rfl) (fun k hk => by
    show unt _ = unt _
    unfold unt
    have e : (t * 3 + k) % 4 = 0 ↔ (k * 3 + t) % 4 = 0 := by omega
    by_cases q : (t * 3 + k) % 4 = 0
    · rw [if_pos q, if_pos (e.1 q)]
    · rw [if_neg q, if_neg (fun z => q (e.2 z))]), dt_unit A t ht (h t ht)]
theorem trp_mul (X Y : Nat → Int) (t : Nat) (ht : t < 9) : mul (trp Y) (trp X) t = trp (mul X Y) t := by
  unfold mul
  show _ = dtI (fun k => X ((t % 3 * 3 + t / 3) / 3 * 3 + k)) (fun k => Y (k * 3 + (t % 3 * 3 + t / 3) % 3))
  rw [dt_comm]
  refine dtI_eq (fun k hk => ?_) (fun k hk => ?_)
  · show X ((k * 3 + t % 3) % 3 * 3 + (k * 3 + t % 3) / 3) = X ((t % 3 * 3 + t / 3) / 3 * 3 + k)
    rw [show (k * 3 + t % 3) % 3 = t % 3 by omega, show (k * 3 + t % 3) / 3 = k by omega, show (t % 3 * 3 + t / 3) / 3 = t % 3 by omega]
  · show Y ((t / 3 * 3 + k) % 3 * 3 + (t / 3 * 3 + k) / 3) = Y (k * 3 + (t % 3 * 3 + t / 3) % 3)
    rw [show (t / 3 * 3 + k) % 3 = k by omega, show (t / 3 * 3 + k) / 3 = t / 3 by omega, show (t % 3 * 3 + t / 3) % 3 = t / 3 by omega]
theorem trp_trp (X : Nat → Int) (t : Nat) (ht : t < 9) : trp (trp X) t = X t := by
  show X ((t % 3 * 3 + t / 3) % 3 * 3 + (t % 3 * 3 + t / 3) / 3) = _
  congr 1; omega
theorem mir_sym (X : Nat → Int) (t : Nat) (ht : t < 9) : trp (mir X) t = mir X t := by
  rcases (show t = 0 ∨ t = 1 ∨ t = 2 ∨ t = 3 ∨ t = 4 ∨ t = 5 ∨ t = 6 ∨ t = 7 ∨ t = 8 by omega) with rfl | rfl | rfl | rfl | rfl | rfl | rfl | rfl | rfl <;> rfl
theorem mir_mir (X : Nat → Int) (t : Nat) (ht : t < 9) : mir (mir X) t = mir X t := by
  rcases (show t = 0 ∨ t = 1 ∨ t = 2 ∨ t = 3 ∨ t = 4 ∨ t = 5 ∨ t = 6 ∨ t = 7 ∨ t = 8 by omega) with rfl | rfl | rfl | rfl | rfl | rfl | rfl | rfl | rfl <;> rfl
/-- The third row is the second. -/
def twr (X : Nat → Int) (t : Nat) : Int := if t < 6 then X t else X (t - 3)
theorem det_two (X : Nat → Int) : det (twr X) = 0 := by
  have z : ∀ i j, i < 3 → j < 3 → mnr (twr X) i j = 0 := fun i j hi hj => by
    unfold mnr twr
    rw [if_pos (by omega), if_neg (by omega), if_pos (by omega), if_neg (by omega), show 6 + j - 3 = 3 + j by omega, show 6 + i - 3 = 3 + i by omega, prd_comm (X (3 + j)) (X (3 + i)), Int.sub_self]
    decide
  unfold det dtI
  rw [mnv0, mnv1, mnv2, z 1 2 (by omega) (by omega), z 2 0 (by omega) (by omega), z 0 1 (by omega) (by omega), prd_zero, prd_zero, prd_zero]
  decide
theorem mu_box (w : World) (X Y : Nat → Int) : ∃ V, V = ((w.alloc (.cells #[.int .i64 (X 0), .int .i64 (X 1), .int .i64 (X 2), .int .i64 (X 3), .int .i64 (X 4), .int .i64 (X 5), .int .i64 (X 6), .int .i64 (X 7), .int .i64 (X 8)] 65)).alloc (.cells #[.int .i64 (Y 0), .int .i64 (Y 1), .int .i64 (Y 2), .int .i64 (Y 3), .int .i64 (Y 4), .int .i64 (Y 5), .int .i64 (Y 6), .int .i64 (Y 7), .int .i64 (Y 8)] 65)) ∧ Below w.heap.size w V ∧ Held w.heap.size [.int .i64 (X 0), .int .i64 (X 1), .int .i64 (X 2), .int .i64 (X 3), .int .i64 (X 4), .int .i64 (X 5), .int .i64 (X 6), .int .i64 (X 7), .int .i64 (X 8)] V ∧ Held (w.heap.size + 1) [.int .i64 (Y 0), .int .i64 (Y 1), .int .i64 (Y 2), .int .i64 (Y 3), .int .i64 (Y 4), .int .i64 (Y 5), .int .i64 (Y 6), .int .i64 (Y 7), .int .i64 (Y 8)] V ∧ V.heap.size = w.heap.size + 2 := by
  refine ⟨_, rfl, (by repeat (first | exact Below.refl _ _ | assumption | apply Below.drew | apply below_drewN | (refine Below.alloc ?_ (by first | exact Nat.le_refl _ | omega | (simp <;> omega)) _) | (refine Below.setCell ?_ (by first | exact Nat.le_refl _ | omega | (simp <;> omega)) _))), ?_, ?_, by simp⟩
  · have := ((Held.new w [.int .i64 (X 0), .int .i64 (X 1), .int .i64 (X 2), .int .i64 (X 3), .int .i64 (X 4), .int .i64 (X 5), .int .i64 (X 6), .int .i64 (X 7), .int .i64 (X 8)] 65).alloc (.cells #[.int .i64 (Y 0), .int .i64 (Y 1), .int .i64 (Y 2), .int .i64 (Y 3), .int .i64 (Y 4), .int .i64 (Y 5), .int .i64 (Y 6), .int .i64 (Y 7), .int .i64 (Y 8)] 65))
    simpa using this
  · have := (Held.new (w.alloc (.cells #[.int .i64 (X 0), .int .i64 (X 1), .int .i64 (X 2), .int .i64 (X 3), .int .i64 (X 4), .int .i64 (X 5), .int .i64 (X 6), .int .i64 (X 7), .int .i64 (X 8)] 65)) [.int .i64 (Y 0), .int .i64 (Y 1), .int .i64 (Y 2), .int .i64 (Y 3), .int .i64 (Y 4), .int .i64 (Y 5), .int .i64 (Y 6), .int .i64 (Y 7), .int .i64 (Y 8)] 65)
    simpa using this
theorem mcell_box (w : World) (X : Nat → Int) : ∃ V, V = w.alloc (.cells #[.int .i64 (X 0), .int .i64 (X 1), .int .i64 (X 2), .int .i64 (X 3), .int .i64 (X 4), .int .i64 (X 5), .int .i64 (X 6), .int .i64 (X 7), .int .i64 (X 8)] 65) ∧ Below w.heap.size w V ∧ Held w.heap.size [.int .i64 (X 0), .int .i64 (X 1), .int .i64 (X 2), .int .i64 (X 3), .int .i64 (X 4), .int .i64 (X 5), .int .i64 (X 6), .int .i64 (X 7), .int .i64 (X 8)] V := ⟨_, rfl, (by repeat (first | exact Below.refl _ _ | assumption | apply Below.drew | apply below_drewN | (refine Below.alloc ?_ (by first | exact Nat.le_refl _ | omega | (simp <;> omega)) _) | (refine Below.setCell ?_ (by first | exact Nat.le_refl _ | omega | (simp <;> omega)) _))), Held.new w [.int .i64 (X 0), .int .i64 (X 1), .int .i64 (X 2), .int .i64 (X 3), .int .i64 (X 4), .int .i64 (X 5), .int .i64 (X 6), .int .i64 (X 7), .int .i64 (X 8)] _⟩
set_option maxRecDepth 100000 in
set_option maxHeartbeats 8000000 in
theorem law_MatrixUnit (X Y : Nat → Int) (w : World) : Calls Try.prog 10 #[.agg #[.int .i64 (X 0), .int .i64 (X 1), .int .i64 (X 2), .int .i64 (X 3), .int .i64 (X 4), .int .i64 (X 5), .int .i64 (X 6), .int .i64 (X 7), .int .i64 (X 8)], .agg #[.int .i64 (Y 0), .int .i64 (Y 1), .int .i64 (Y 2), .int .i64 (Y 3), .int .i64 (Y 4), .int .i64 (Y 5), .int .i64 (Y 6), .int .i64 (Y 7), .int .i64 (Y 8)]] w fun e w' => e = .returned (.bool true) ∧ Below w.heap.size w w' := by
  obtain ⟨V, eV, hb0, hX, hY, hz⟩ := mu_box w X Y
  have LV := Lib.hid (fun u => lives40 u)
  have HX := Lib.hid (fun u (h : Below (w.heap.size + 2) V u) => hX.below h (by omega))
  have HY := Lib.hid (fun u (h : Below (w.heap.size + 2) V u) => hY.below h (by omega))
  replace eV := Lib.hid eV
  replace hz := Lib.hid hz
  replace hb0 := Lib.hid hb0
  clear hX hY
  go_enter Try.func10, Try.ntmps10
  go_upto_region 1 with (fail)
  rw [← eV.out]
  go_wp2_with fail
  go_loopw [5, 6] (fun s i u => ∃ k : Nat, k ≤ 9 ∧ i = .int .i64 (k : Int) ∧ s = .bool (allW X k) ∧ Hid (Below (w.heap.size + 2) V u)) (fun _ i _ => 9 - (intOf i).toNat)
  case atStart => exact ⟨0, by omega, rfl, rfl, Lib.hid (Below.refl _ _)⟩
  case round =>
    obtain ⟨k, hk, rfl, rfl, hb⟩ := hrel
    have hXX := HX.out _ hb.out
    rcases (show k = 0 ∨ k = 1 ∨ k = 2 ∨ k = 3 ∨ k = 4 ∨ k = 5 ∨ k = 6 ∨ k = 7 ∨ k = 8 ∨ k = 9 by omega) with rfl | rfl | rfl | rfl | rfl | rfl | rfl | rfl | rfl | rfl
    · have kx := hXX.c 0 _ rfl
      have CL := Lib.hid (fun u => rclip_any (X 0) u)
      have e1 := Lib.hid (show allW X (0 + 1) = (allW X 0 && (clp (X 0) == X 0)) from rfl)
      clear hXX HX HY LV
      generalize clp (X 0) = Z at *
      generalize X 0 = x at *
      generalize allW X 0 = W at *
      cases W
      · go_wp2
        go_roundw
        case rel => exact ⟨0 + 1, by omega, by first | rfl | go_num, by rw [e1.out]; rfl, hb⟩
        case measure => simp [intOf]
      · go_wp2_with fail
        refine (CL.out _).mono ?_
        rintro e w' ⟨rfl, rfl⟩
        go_wp2
        go_roundw
        case rel => exact ⟨0 + 1, by omega, by first | rfl | go_num, by rw [e1.out]; simp, hb⟩
        case measure => simp [intOf]
    · have kx := hXX.c 1 _ rfl
      have CL := Lib.hid (fun u => rclip_any (X 1) u)
      have e1 := Lib.hid (show allW X (1 + 1) = (allW X 1 && (clp (X 1) == X 1)) from rfl)
      clear hXX HX HY LV
      generalize clp (X 1) = Z at *
      generalize X 1 = x at *
      generalize allW X 1 = W at *
      cases W
      · go_wp2
        go_roundw
        case rel => exact ⟨1 + 1, by omega, by first | rfl | go_num, by rw [e1.out]; rfl, hb⟩
        case measure => simp [intOf]
      · go_wp2_with fail
        refine (CL.out _).mono ?_
        rintro e w' ⟨rfl, rfl⟩
        go_wp2
        go_roundw
        case rel => exact ⟨1 + 1, by omega, by first | rfl | go_num, by rw [e1.out]; simp, hb⟩
        case measure => simp [intOf]
    · have kx := hXX.c 2 _ rfl
      have CL := Lib.hid (fun u => rclip_any (X 2) u)
      have e1 := Lib.hid (show allW X (2 + 1) = (allW X 2 && (clp (X 2) == X 2)) from rfl)
      clear hXX HX HY LV
      generalize clp (X 2) = Z at *
      generalize X 2 = x at *
      generalize allW X 2 = W at *
      cases W
      · go_wp2
        go_roundw
        case rel => exact ⟨2 + 1, by omega, by first | rfl | go_num, by rw [e1.out]; rfl, hb⟩
        case measure => simp [intOf]
      · go_wp2_with fail
        refine (CL.out _).mono ?_
        rintro e w' ⟨rfl, rfl⟩
        go_wp2
        go_roundw
        case rel => exact ⟨2 + 1, by omega, by first | rfl | go_num, by rw [e1.out]; simp, hb⟩
        case measure => simp [intOf]
    · have kx := hXX.c 3 _ rfl
      have CL := Lib.hid (fun u => rclip_any (X 3) u)
      have e1 := Lib.hid (show allW X (3 + 1) = (allW X 3 && (clp (X 3) == X 3)) from rfl)
      clear hXX HX HY LV
      generalize clp (X 3) = Z at *
      generalize X 3 = x at *
      generalize allW X 3 = W at *
      cases W
      · go_wp2
        go_roundw
        case rel => exact ⟨3 + 1, by omega, by first | rfl | go_num, by rw [e1.out]; rfl, hb⟩
        case measure => simp [intOf]
      · go_wp2_with fail
        refine (CL.out _).mono ?_
        rintro e w' ⟨rfl, rfl⟩
        go_wp2
        go_roundw
        case rel => exact ⟨3 + 1, by omega, by first | rfl | go_num, by rw [e1.out]; simp, hb⟩
        case measure => simp [intOf]
    · have kx := hXX.c 4 _ rfl
      have CL := Lib.hid (fun u => rclip_any (X 4) u)
      have e1 := Lib.hid (show allW X (4 + 1) = (allW X 4 && (clp (X 4) == X 4)) from rfl)
      clear hXX HX HY LV
      generalize clp (X 4) = Z at *
      generalize X 4 = x at *
      generalize allW X 4 = W at *
      cases W
      · go_wp2
        go_roundw
        case rel => exact ⟨4 + 1, by omega, by first | rfl | go_num, by rw [e1.out]; rfl, hb⟩
        case measure => simp [intOf]
      · go_wp2_with fail
        refine (CL.out _).mono ?_
        rintro e w' ⟨rfl, rfl⟩
        go_wp2
        go_roundw
        case rel => exact ⟨4 + 1, by omega, by first | rfl | go_num, by rw [e1.out]; simp, hb⟩
        case measure => simp [intOf]
    · have kx := hXX.c 5 _ rfl
      have CL := Lib.hid (fun u => rclip_any (X 5) u)
      have e1 := Lib.hid (show allW X (5 + 1) = (allW X 5 && (clp (X 5) == X 5)) from rfl)
      clear hXX HX HY LV
      generalize clp (X 5) = Z at *
      generalize X 5 = x at *
      generalize allW X 5 = W at *
      cases W
      · go_wp2
        go_roundw
        case rel => exact ⟨5 + 1, by omega, by first | rfl | go_num, by rw [e1.out]; rfl, hb⟩
        case measure => simp [intOf]
      · go_wp2_with fail
        refine (CL.out _).mono ?_
        rintro e w' ⟨rfl, rfl⟩
        go_wp2
        go_roundw
        case rel => exact ⟨5 + 1, by omega, by first | rfl | go_num, by rw [e1.out]; simp, hb⟩
        case measure => simp [intOf]
    · have kx := hXX.c 6 _ rfl
      have CL := Lib.hid (fun u => rclip_any (X 6) u)
      have e1 := Lib.hid (show allW X (6 + 1) = (allW X 6 && (clp (X 6) == X 6)) from rfl)
      clear hXX HX HY LV
      generalize clp (X 6) = Z at *
      generalize X 6 = x at *
      generalize allW X 6 = W at *
      cases W
      · go_wp2
        go_roundw
        case rel => exact ⟨6 + 1, by omega, by first | rfl | go_num, by rw [e1.out]; rfl, hb⟩
        case measure => simp [intOf]
      · go_wp2_with fail
        refine (CL.out _).mono ?_
        rintro e w' ⟨rfl, rfl⟩
        go_wp2
        go_roundw
        case rel => exact ⟨6 + 1, by omega, by first | rfl | go_num, by rw [e1.out]; simp, hb⟩
        case measure => simp [intOf]
    · have kx := hXX.c 7 _ rfl
      have CL := Lib.hid (fun u => rclip_any (X 7) u)
      have e1 := Lib.hid (show allW X (7 + 1) = (allW X 7 && (clp (X 7) == X 7)) from rfl)
      clear hXX HX HY LV
      generalize clp (X 7) = Z at *
      generalize X 7 = x at *
      generalize allW X 7 = W at *
      cases W
      · go_wp2
        go_roundw
        case rel => exact ⟨7 + 1, by omega, by first | rfl | go_num, by rw [e1.out]; rfl, hb⟩
        case measure => simp [intOf]
      · go_wp2_with fail
        refine (CL.out _).mono ?_
        rintro e w' ⟨rfl, rfl⟩
        go_wp2
        go_roundw
        case rel => exact ⟨7 + 1, by omega, by first | rfl | go_num, by rw [e1.out]; simp, hb⟩
        case measure => simp [intOf]
    · have kx := hXX.c 8 _ rfl
      have CL := Lib.hid (fun u => rclip_any (X 8) u)
      have e1 := Lib.hid (show allW X (8 + 1) = (allW X 8 && (clp (X 8) == X 8)) from rfl)
      clear hXX HX HY LV
      generalize clp (X 8) = Z at *
      generalize X 8 = x at *
      generalize allW X 8 = W at *
      cases W
      · go_wp2
        go_roundw
        case rel => exact ⟨8 + 1, by omega, by first | rfl | go_num, by rw [e1.out]; rfl, hb⟩
        case measure => simp [intOf]
      · go_wp2_with fail
        refine (CL.out _).mono ?_
        rintro e w' ⟨rfl, rfl⟩
        go_wp2
        go_roundw
        case rel => exact ⟨8 + 1, by omega, by first | rfl | go_num, by rw [e1.out]; simp, hb⟩
        case measure => simp [intOf]
    · clear hXX
      have MU := Lib.hid (fun u => munit u)
      go_wp2_with fail
      refine (MU.out _).mono ?_
      rintro e w1 ⟨rfl, hb1⟩
      have hB1 := hb.out.trans (hb1.mono (by have := hb.out.size; have := hz.out; omega))
      clear hb1 hb MU
      go_upto_region 8 with (fail)
      obtain ⟨w2, e2, hm2, hU2⟩ := mcell_box w1 unt
      rw [← e2]
      replace e2 := Lib.hid e2
      obtain ⟨q, eq⟩ : ∃ q, q = w1.heap.size := ⟨_, rfl⟩
      rw [← eq] at hU2 ⊢
      have hB2 := Lib.hid (hB1.trans (hm2.mono (by have := hB1.size; have := hz.out; omega)))
      clear hB1 hm2 eq
      cases hW : allW X 9
      · clear hW hU2
        refine region_moves (fun _ => True) [] [(.free, 0), (.free, 1), (.take, 2), (.take, 3), (.take, 5), (.step, 4), (.free, 6), (.free, 7), (.take, 8), (.take, 9), (.take, 11), (.step, 10), (.free, 12), (.free, 13), (.free, 14), (.take, 15), (.free, 16), (.take, 17), (.free, 19), (.take, 20), (.step, 18), (.free, 21), (.free, 22), (.free, 23)] _ (by kernel_rfl) (by kernel_rfl) (by kernel_rfl) (by kernel_rfl) (by decide) rfl (fun _ _ _ _ _ h => h) ?_
        simp only [List.filterMap_cons, List.filterMap_nil, List.getElem?_toArray, List.getElem?_cons_zero, List.getElem?_cons_succ, Option.map_some]
        iterate 2
          first
            | (refine mv_free ?_ (Or.inl ⟨by rfl, ?_⟩) (trivial) ?_
               rotate_left 1
               · intro u
                 go_simp
                 try simp only [d1]
                 try simp only [d2]
                 try simp only [d3]
                 try with_reducible rfl
               simp only [Act.put, List.setIfInBounds_toArray, List.set_cons_zero, List.set_cons_succ])
            | (refine mv_free _ (Or.inr ⟨by rfl, rfl⟩) (trivial) ?_
               simp only [Act.put, List.setIfInBounds_toArray, List.set_cons_zero, List.set_cons_succ])
        iterate 3
          first
            | (refine mv_take ?_ (Or.inl ⟨by rfl, ?_⟩) (trivial) ?_
               rotate_left 1
               · intro u hu
                 (try dsimp only at hu)
                 go_simp
                 try with_reducible rfl
               simp only [Act.put, List.setIfInBounds_toArray, List.set_cons_zero, List.set_cons_succ])
            | (refine mv_take _ (Or.inr ⟨by rfl, rfl⟩) (trivial) ?_
               simp only [Act.put, List.setIfInBounds_toArray, List.set_cons_zero, List.set_cons_succ])
        refine mv_step (fun K hK => ?_)
        go_simp
        refine hK.out _ _ _ (fun u hu => hu) (trivial) ?_
        clear hK K
        iterate 2
          first
            | (refine mv_free ?_ (Or.inl ⟨by rfl, ?_⟩) (trivial) ?_
               rotate_left 1
               · intro u
                 go_simp
                 try simp only [d1]
                 try simp only [d2]
                 try simp only [d3]
                 try with_reducible rfl
               simp only [Act.put, List.setIfInBounds_toArray, List.set_cons_zero, List.set_cons_succ])
            | (refine mv_free _ (Or.inr ⟨by rfl, rfl⟩) (trivial) ?_
               simp only [Act.put, List.setIfInBounds_toArray, List.set_cons_zero, List.set_cons_succ])
        iterate 3
          first
            | (refine mv_take ?_ (Or.inl ⟨by rfl, ?_⟩) (trivial) ?_
               rotate_left 1
               · intro u hu
                 (try dsimp only at hu)
                 go_simp
                 try with_reducible rfl
               simp only [Act.put, List.setIfInBounds_toArray, List.set_cons_zero, List.set_cons_succ])
            | (refine mv_take _ (Or.inr ⟨by rfl, rfl⟩) (trivial) ?_
               simp only [Act.put, List.setIfInBounds_toArray, List.set_cons_zero, List.set_cons_succ])
        refine mv_step (fun K hK => ?_)
        go_simp
        refine hK.out _ _ _ (fun u hu => hu) (trivial) ?_
        clear hK K
        iterate 3
          first
            | (refine mv_free ?_ (Or.inl ⟨by rfl, ?_⟩) (trivial) ?_
               rotate_left 1
               · intro u
                 go_simp
                 try simp only [d1]
                 try simp only [d2]
                 try simp only [d3]
                 try with_reducible rfl
               simp only [Act.put, List.setIfInBounds_toArray, List.set_cons_zero, List.set_cons_succ])
            | (refine mv_free _ (Or.inr ⟨by rfl, rfl⟩) (trivial) ?_
               simp only [Act.put, List.setIfInBounds_toArray, List.set_cons_zero, List.set_cons_succ])
        iterate 1
          first
            | (refine mv_take ?_ (Or.inl ⟨by rfl, ?_⟩) (trivial) ?_
               rotate_left 1
               · intro u hu
                 (try dsimp only at hu)
                 go_simp
                 try with_reducible rfl
               simp only [Act.put, List.setIfInBounds_toArray, List.set_cons_zero, List.set_cons_succ])
            | (refine mv_take _ (Or.inr ⟨by rfl, rfl⟩) (trivial) ?_
               simp only [Act.put, List.setIfInBounds_toArray, List.set_cons_zero, List.set_cons_succ])
        iterate 1
          first
            | (refine mv_free ?_ (Or.inl ⟨by rfl, ?_⟩) (trivial) ?_
               rotate_left 1
               · intro u
                 go_simp
                 try simp only [d1]
                 try simp only [d2]
                 try simp only [d3]
                 try with_reducible rfl
               simp only [Act.put, List.setIfInBounds_toArray, List.set_cons_zero, List.set_cons_succ])
            | (refine mv_free _ (Or.inr ⟨by rfl, rfl⟩) (trivial) ?_
               simp only [Act.put, List.setIfInBounds_toArray, List.set_cons_zero, List.set_cons_succ])
        iterate 1
          first
            | (refine mv_take ?_ (Or.inl ⟨by rfl, ?_⟩) (trivial) ?_
               rotate_left 1
               · intro u hu
                 (try dsimp only at hu)
                 go_simp
                 try with_reducible rfl
               simp only [Act.put, List.setIfInBounds_toArray, List.set_cons_zero, List.set_cons_succ])
            | (refine mv_take _ (Or.inr ⟨by rfl, rfl⟩) (trivial) ?_
               simp only [Act.put, List.setIfInBounds_toArray, List.set_cons_zero, List.set_cons_succ])
        iterate 1
          first
            | (refine mv_free ?_ (Or.inl ⟨by rfl, ?_⟩) (trivial) ?_
               rotate_left 1
               · intro u
                 go_simp
                 try simp only [d1]
                 try simp only [d2]
                 try simp only [d3]
                 try with_reducible rfl
               simp only [Act.put, List.setIfInBounds_toArray, List.set_cons_zero, List.set_cons_succ])
            | (refine mv_free _ (Or.inr ⟨by rfl, rfl⟩) (trivial) ?_
               simp only [Act.put, List.setIfInBounds_toArray, List.set_cons_zero, List.set_cons_succ])
        iterate 1
          first
            | (refine mv_take ?_ (Or.inl ⟨by rfl, ?_⟩) (trivial) ?_
               rotate_left 1
               · intro u hu
                 (try dsimp only at hu)
                 go_simp
                 try with_reducible rfl
               simp only [Act.put, List.setIfInBounds_toArray, List.set_cons_zero, List.set_cons_succ])
            | (refine mv_take _ (Or.inr ⟨by rfl, rfl⟩) (trivial) ?_
               simp only [Act.put, List.setIfInBounds_toArray, List.set_cons_zero, List.set_cons_succ])
        refine mv_step (fun K hK => ?_)
        go_simp
        refine hK.out _ _ _ (fun u hu => hu) (trivial) ?_
        clear hK K
        iterate 3
          first
            | (refine mv_free ?_ (Or.inl ⟨by rfl, ?_⟩) (trivial) ?_
               rotate_left 1
               · intro u
                 go_simp
                 try simp only [d1]
                 try simp only [d2]
                 try simp only [d3]
                 try with_reducible rfl
               simp only [Act.put, List.setIfInBounds_toArray, List.set_cons_zero, List.set_cons_succ])
            | (refine mv_free _ (Or.inr ⟨by rfl, rfl⟩) (trivial) ?_
               simp only [Act.put, List.setIfInBounds_toArray, List.set_cons_zero, List.set_cons_succ])
        refine mv_done ?_
        have hB9 := Lib.hid hB2.out.drew
        clear hB2 e2
        generalize w2.drew = w9 at *
        have N1 := fun u => mmul X Y u
        have N2 := fun u => mturn (mul X Y) u
        have N3 := Lib.hid (fun u => mturn Y u)
        have N4 := Lib.hid (fun u => mturn X u)
        have N5 := fun u => mmul (trp Y) (trp X) u
        simp only [trp_mul X Y 0 (by omega), trp_mul X Y 1 (by omega), trp_mul X Y 2 (by omega), trp_mul X Y 3 (by omega), trp_mul X Y 4 (by omega), trp_mul X Y 5 (by omega), trp_mul X Y 6 (by omega), trp_mul X Y 7 (by omega), trp_mul X Y 8 (by omega)] at N5
        have N7 := fun u => mturn (trp X) u
        simp only [trp_trp X 0 (by omega), trp_trp X 1 (by omega), trp_trp X 2 (by omega), trp_trp X 3 (by omega), trp_trp X 4 (by omega), trp_trp X 5 (by omega), trp_trp X 6 (by omega), trp_trp X 7 (by omega), trp_trp X 8 (by omega)] at N7
        have ND := fun u => mdet (twr X) u
        rw [det_two] at ND
        have NS := Lib.hid (fun u => msym (mir X) (mir_sym X) u)
        have NM := Lib.hid (fun u => mmirror X u)
        have NR := fun u => mmirror (mir X) u
        simp only [mir_mir X 0 (by omega), mir_mir X 1 (by omega), mir_mir X 2 (by omega), mir_mir X 3 (by omega), mir_mir X 4 (by omega), mir_mir X 5 (by omega), mir_mir X 6 (by omega), mir_mir X 7 (by omega), mir_mir X 8 (by omega)] at NR
        generalize trp (mul X Y) = Q at *
        generalize mul X Y = P at *
        generalize trp Y = Y1 at *
        generalize trp X = X1 at *
        replace N1 := Lib.hid N1
        replace N2 := Lib.hid N2
        replace N5 := Lib.hid N5
        replace N7 := Lib.hid N7
        replace ND := Lib.hid ND
        replace NR := Lib.hid NR
        have EQ1 := fun u => meq (Q 0) (Q 1) (Q 2) (Q 3) (Q 4) (Q 5) (Q 6) (Q 7) (Q 8) u
        have EQ2 := fun u => meq (X 0) (X 1) (X 2) (X 3) (X 4) (X 5) (X 6) (X 7) (X 8) u
        have hA20 := HX.out _ hB9.out
        have hB20 := HY.out _ hB9.out
        obtain ⟨c0, f0⟩ := hA20.one 0 rfl
        obtain ⟨c1, f1⟩ := hA20.one 1 rfl
        obtain ⟨c2, f2⟩ := hA20.one 2 rfl
        obtain ⟨c3, f3⟩ := hA20.one 3 rfl
        obtain ⟨c4, f4⟩ := hA20.one 4 rfl
        obtain ⟨c5, f5⟩ := hA20.one 5 rfl
        obtain ⟨c6, f6⟩ := hA20.one 6 rfl
        obtain ⟨c7, f7⟩ := hA20.one 7 rfl
        obtain ⟨c8, f8⟩ := hA20.one 8 rfl
        obtain ⟨d0, g0⟩ := hB20.one 0 rfl
        obtain ⟨d1, g1⟩ := hB20.one 1 rfl
        obtain ⟨d2, g2⟩ := hB20.one 2 rfl
        obtain ⟨d3, g3⟩ := hB20.one 3 rfl
        obtain ⟨d4, g4⟩ := hB20.one 4 rfl
        obtain ⟨d5, g5⟩ := hB20.one 5 rfl
        obtain ⟨d6, g6⟩ := hB20.one 6 rfl
        obtain ⟨d7, g7⟩ := hB20.one 7 rfl
        obtain ⟨d8, g8⟩ := hB20.one 8 rfl
        clear hA20 hB20
        go_wp2_with fail
        refine region_moves (fun u => u.cell? ⟨w.heap.size, 0, none⟩ = some (.int .i64 (X 0)) ∧ u.cell? ⟨w.heap.size, 1, none⟩ = some (.int .i64 (X 1)) ∧ u.cell? ⟨w.heap.size, 2, none⟩ = some (.int .i64 (X 2)) ∧ u.cell? ⟨w.heap.size, 3, none⟩ = some (.int .i64 (X 3)) ∧ u.cell? ⟨w.heap.size, 4, none⟩ = some (.int .i64 (X 4)) ∧ u.cell? ⟨w.heap.size, 5, none⟩ = some (.int .i64 (X 5)) ∧ u.cell? ⟨w.heap.size, 6, none⟩ = some (.int .i64 (X 6)) ∧ u.cell? ⟨w.heap.size, 7, none⟩ = some (.int .i64 (X 7)) ∧ u.cell? ⟨w.heap.size, 8, none⟩ = some (.int .i64 (X 8)) ∧ u.cell? ⟨w.heap.size + 1, 0, none⟩ = some (.int .i64 (Y 0)) ∧ u.cell? ⟨w.heap.size + 1, 1, none⟩ = some (.int .i64 (Y 1)) ∧ u.cell? ⟨w.heap.size + 1, 2, none⟩ = some (.int .i64 (Y 2)) ∧ u.cell? ⟨w.heap.size + 1, 3, none⟩ = some (.int .i64 (Y 3)) ∧ u.cell? ⟨w.heap.size + 1, 4, none⟩ = some (.int .i64 (Y 4)) ∧ u.cell? ⟨w.heap.size + 1, 5, none⟩ = some (.int .i64 (Y 5)) ∧ u.cell? ⟨w.heap.size + 1, 6, none⟩ = some (.int .i64 (Y 6)) ∧ u.cell? ⟨w.heap.size + 1, 7, none⟩ = some (.int .i64 (Y 7)) ∧ u.cell? ⟨w.heap.size + 1, 8, none⟩ = some (.int .i64 (Y 8))) [] [(.take, 0), (.take, 1), (.take, 4), (.take, 6), (.step, 2), (.step, 3), (.step, 5), (.step, 7), (.step, 8), (.free, 9), (.free, 10), (.take, 11), (.take, 14), (.step, 12), (.step, 13), (.free, 15), (.free, 16)] _ (by kernel_rfl) (by kernel_rfl) (by kernel_rfl) (by kernel_rfl) (by decide) rfl (fun _ _ _ _ _ h => h) ?_
        simp only [List.filterMap_cons, List.filterMap_nil, List.getElem?_toArray, List.getElem?_cons_zero, List.getElem?_cons_succ, Option.map_some]
        iterate 4
          first
            | (refine mv_take ?_ (Or.inl ⟨by rfl, ?_⟩) (⟨c0, c1, c2, c3, c4, c5, c6, c7, c8, d0, d1, d2, d3, d4, d5, d6, d7, d8⟩) ?_
               rotate_left 1
               · intro u hu
                 (try dsimp only at hu)
                 go_simp
                 try with_reducible rfl
               simp only [Act.put, List.setIfInBounds_toArray, List.set_cons_zero, List.set_cons_succ])
            | (refine mv_take _ (Or.inr ⟨by rfl, rfl⟩) (⟨c0, c1, c2, c3, c4, c5, c6, c7, c8, d0, d1, d2, d3, d4, d5, d6, d7, d8⟩) ?_
               simp only [Act.put, List.setIfInBounds_toArray, List.set_cons_zero, List.set_cons_succ])
        refine mv_step (fun K hK => ?_)
        go_simp
        refine (N1.out _).mono ?_
        rintro e w30 ⟨rfl, hb30⟩
        have hB30' := Lib.hid (hB9.out.drew.trans (hb30.mono (by have := hB9.out.size; have := hz.out; first | omega | (show w.heap.size + 2 ≤ w9.heap.size; omega))))
        clear c0 f0 d0 g0 c1 f1 d1 g1 c2 f2 d2 g2 c3 f3 d3 g3 c4 f4 d4 g4 c5 f5 d5 g5 c6 f6 d6 g6 c7 f7 d7 g7 c8 f8 d8 g8
        clear hb30
        have hA30 := HX.out _ hB30'.out
        have hB30 := HY.out _ hB30'.out
        obtain ⟨c0, f0⟩ := hA30.one 0 rfl
        obtain ⟨c1, f1⟩ := hA30.one 1 rfl
        obtain ⟨c2, f2⟩ := hA30.one 2 rfl
        obtain ⟨c3, f3⟩ := hA30.one 3 rfl
        obtain ⟨c4, f4⟩ := hA30.one 4 rfl
        obtain ⟨c5, f5⟩ := hA30.one 5 rfl
        obtain ⟨c6, f6⟩ := hA30.one 6 rfl
        obtain ⟨c7, f7⟩ := hA30.one 7 rfl
        obtain ⟨c8, f8⟩ := hA30.one 8 rfl
        obtain ⟨d0, g0⟩ := hB30.one 0 rfl
        obtain ⟨d1, g1⟩ := hB30.one 1 rfl
        obtain ⟨d2, g2⟩ := hB30.one 2 rfl
        obtain ⟨d3, g3⟩ := hB30.one 3 rfl
        obtain ⟨d4, g4⟩ := hB30.one 4 rfl
        obtain ⟨d5, g5⟩ := hB30.one 5 rfl
        obtain ⟨d6, g6⟩ := hB30.one 6 rfl
        obtain ⟨d7, g7⟩ := hB30.one 7 rfl
        obtain ⟨d8, g8⟩ := hB30.one 8 rfl
        clear hA30 hB30
        go_wp2_with fail
        refine hK.out _ _ _ (fun u hu => hu) (⟨c0, c1, c2, c3, c4, c5, c6, c7, c8, d0, d1, d2, d3, d4, d5, d6, d7, d8⟩) ?_
        clear hK K
        refine mv_step (fun K hK => ?_)
        go_simp
        refine (N2.out _).mono ?_
        rintro e w31 ⟨rfl, hb31⟩
        have hB31' := Lib.hid (hB30'.out.trans (hb31.mono (by have := hB30'.out.size; have := hz.out; first | omega | (show w.heap.size + 2 ≤ w9.heap.size; omega))))
        clear c0 f0 d0 g0 c1 f1 d1 g1 c2 f2 d2 g2 c3 f3 d3 g3 c4 f4 d4 g4 c5 f5 d5 g5 c6 f6 d6 g6 c7 f7 d7 g7 c8 f8 d8 g8
        clear hb31
        have hA31 := HX.out _ hB31'.out
        have hB31 := HY.out _ hB31'.out
        obtain ⟨c0, f0⟩ := hA31.one 0 rfl
        obtain ⟨c1, f1⟩ := hA31.one 1 rfl
        obtain ⟨c2, f2⟩ := hA31.one 2 rfl
        obtain ⟨c3, f3⟩ := hA31.one 3 rfl
        obtain ⟨c4, f4⟩ := hA31.one 4 rfl
        obtain ⟨c5, f5⟩ := hA31.one 5 rfl
        obtain ⟨c6, f6⟩ := hA31.one 6 rfl
        obtain ⟨c7, f7⟩ := hA31.one 7 rfl
        obtain ⟨c8, f8⟩ := hA31.one 8 rfl
        obtain ⟨d0, g0⟩ := hB31.one 0 rfl
        obtain ⟨d1, g1⟩ := hB31.one 1 rfl
        obtain ⟨d2, g2⟩ := hB31.one 2 rfl
        obtain ⟨d3, g3⟩ := hB31.one 3 rfl
        obtain ⟨d4, g4⟩ := hB31.one 4 rfl
        obtain ⟨d5, g5⟩ := hB31.one 5 rfl
        obtain ⟨d6, g6⟩ := hB31.one 6 rfl
        obtain ⟨d7, g7⟩ := hB31.one 7 rfl
        obtain ⟨d8, g8⟩ := hB31.one 8 rfl
        clear hA31 hB31
        go_wp2_with fail
        refine hK.out _ _ _ (fun u hu => hu) (⟨c0, c1, c2, c3, c4, c5, c6, c7, c8, d0, d1, d2, d3, d4, d5, d6, d7, d8⟩) ?_
        clear hK K
        refine mv_step (fun K hK => ?_)
        go_simp
        refine (N3.out _).mono ?_
        rintro e w32 ⟨rfl, hb32⟩
        have hB32' := Lib.hid (hB31'.out.trans (hb32.mono (by have := hB31'.out.size; have := hz.out; first | omega | (show w.heap.size + 2 ≤ w9.heap.size; omega))))
        clear c0 f0 d0 g0 c1 f1 d1 g1 c2 f2 d2 g2 c3 f3 d3 g3 c4 f4 d4 g4 c5 f5 d5 g5 c6 f6 d6 g6 c7 f7 d7 g7 c8 f8 d8 g8
        clear hb32
        have hA32 := HX.out _ hB32'.out
        have hB32 := HY.out _ hB32'.out
        obtain ⟨c0, f0⟩ := hA32.one 0 rfl
        obtain ⟨c1, f1⟩ := hA32.one 1 rfl
        obtain ⟨c2, f2⟩ := hA32.one 2 rfl
        obtain ⟨c3, f3⟩ := hA32.one 3 rfl
        obtain ⟨c4, f4⟩ := hA32.one 4 rfl
        obtain ⟨c5, f5⟩ := hA32.one 5 rfl
        obtain ⟨c6, f6⟩ := hA32.one 6 rfl
        obtain ⟨c7, f7⟩ := hA32.one 7 rfl
        obtain ⟨c8, f8⟩ := hA32.one 8 rfl
        obtain ⟨d0, g0⟩ := hB32.one 0 rfl
        obtain ⟨d1, g1⟩ := hB32.one 1 rfl
        obtain ⟨d2, g2⟩ := hB32.one 2 rfl
        obtain ⟨d3, g3⟩ := hB32.one 3 rfl
        obtain ⟨d4, g4⟩ := hB32.one 4 rfl
        obtain ⟨d5, g5⟩ := hB32.one 5 rfl
        obtain ⟨d6, g6⟩ := hB32.one 6 rfl
        obtain ⟨d7, g7⟩ := hB32.one 7 rfl
        obtain ⟨d8, g8⟩ := hB32.one 8 rfl
        clear hA32 hB32
        go_wp2_with fail
        refine hK.out _ _ _ (fun u hu => hu) (⟨c0, c1, c2, c3, c4, c5, c6, c7, c8, d0, d1, d2, d3, d4, d5, d6, d7, d8⟩) ?_
        clear hK K
        refine mv_step (fun K hK => ?_)
        go_simp
        refine (N4.out _).mono ?_
        rintro e w33 ⟨rfl, hb33⟩
        have hB33' := Lib.hid (hB32'.out.trans (hb33.mono (by have := hB32'.out.size; have := hz.out; first | omega | (show w.heap.size + 2 ≤ w9.heap.size; omega))))
        clear c0 f0 d0 g0 c1 f1 d1 g1 c2 f2 d2 g2 c3 f3 d3 g3 c4 f4 d4 g4 c5 f5 d5 g5 c6 f6 d6 g6 c7 f7 d7 g7 c8 f8 d8 g8
        clear hb33
        have hA33 := HX.out _ hB33'.out
        have hB33 := HY.out _ hB33'.out
        obtain ⟨c0, f0⟩ := hA33.one 0 rfl
        obtain ⟨c1, f1⟩ := hA33.one 1 rfl
        obtain ⟨c2, f2⟩ := hA33.one 2 rfl
        obtain ⟨c3, f3⟩ := hA33.one 3 rfl
        obtain ⟨c4, f4⟩ := hA33.one 4 rfl
        obtain ⟨c5, f5⟩ := hA33.one 5 rfl
        obtain ⟨c6, f6⟩ := hA33.one 6 rfl
        obtain ⟨c7, f7⟩ := hA33.one 7 rfl
        obtain ⟨c8, f8⟩ := hA33.one 8 rfl
        obtain ⟨d0, g0⟩ := hB33.one 0 rfl
        obtain ⟨d1, g1⟩ := hB33.one 1 rfl
        obtain ⟨d2, g2⟩ := hB33.one 2 rfl
        obtain ⟨d3, g3⟩ := hB33.one 3 rfl
        obtain ⟨d4, g4⟩ := hB33.one 4 rfl
        obtain ⟨d5, g5⟩ := hB33.one 5 rfl
        obtain ⟨d6, g6⟩ := hB33.one 6 rfl
        obtain ⟨d7, g7⟩ := hB33.one 7 rfl
        obtain ⟨d8, g8⟩ := hB33.one 8 rfl
        clear hA33 hB33
        go_wp2_with fail
        refine hK.out _ _ _ (fun u hu => hu) (⟨c0, c1, c2, c3, c4, c5, c6, c7, c8, d0, d1, d2, d3, d4, d5, d6, d7, d8⟩) ?_
        clear hK K
        refine mv_step (fun K hK => ?_)
        go_simp
        refine (N5.out _).mono ?_
        rintro e w34 ⟨rfl, hb34⟩
        have hB34' := Lib.hid (hB33'.out.trans (hb34.mono (by have := hB33'.out.size; have := hz.out; first | omega | (show w.heap.size + 2 ≤ w9.heap.size; omega))))
        clear c0 f0 d0 g0 c1 f1 d1 g1 c2 f2 d2 g2 c3 f3 d3 g3 c4 f4 d4 g4 c5 f5 d5 g5 c6 f6 d6 g6 c7 f7 d7 g7 c8 f8 d8 g8
        clear hb34
        have hA34 := HX.out _ hB34'.out
        have hB34 := HY.out _ hB34'.out
        obtain ⟨c0, f0⟩ := hA34.one 0 rfl
        obtain ⟨c1, f1⟩ := hA34.one 1 rfl
        obtain ⟨c2, f2⟩ := hA34.one 2 rfl
        obtain ⟨c3, f3⟩ := hA34.one 3 rfl
        obtain ⟨c4, f4⟩ := hA34.one 4 rfl
        obtain ⟨c5, f5⟩ := hA34.one 5 rfl
        obtain ⟨c6, f6⟩ := hA34.one 6 rfl
        obtain ⟨c7, f7⟩ := hA34.one 7 rfl
        obtain ⟨c8, f8⟩ := hA34.one 8 rfl
        obtain ⟨d0, g0⟩ := hB34.one 0 rfl
        obtain ⟨d1, g1⟩ := hB34.one 1 rfl
        obtain ⟨d2, g2⟩ := hB34.one 2 rfl
        obtain ⟨d3, g3⟩ := hB34.one 3 rfl
        obtain ⟨d4, g4⟩ := hB34.one 4 rfl
        obtain ⟨d5, g5⟩ := hB34.one 5 rfl
        obtain ⟨d6, g6⟩ := hB34.one 6 rfl
        obtain ⟨d7, g7⟩ := hB34.one 7 rfl
        obtain ⟨d8, g8⟩ := hB34.one 8 rfl
        clear hA34 hB34
        go_wp2_with fail
        refine hK.out _ _ _ (fun u hu => hu) (⟨c0, c1, c2, c3, c4, c5, c6, c7, c8, d0, d1, d2, d3, d4, d5, d6, d7, d8⟩) ?_
        clear hK K
        iterate 2
          first
            | (refine mv_free ?_ (Or.inl ⟨by rfl, ?_⟩) (⟨c0, c1, c2, c3, c4, c5, c6, c7, c8, d0, d1, d2, d3, d4, d5, d6, d7, d8⟩) ?_
               rotate_left 1
               · intro u
                 go_simp
                 try simp only [d1]
                 try simp only [d2]
                 try simp only [d3]
                 try with_reducible rfl
               simp only [Act.put, List.setIfInBounds_toArray, List.set_cons_zero, List.set_cons_succ])
            | (refine mv_free _ (Or.inr ⟨by rfl, rfl⟩) (⟨c0, c1, c2, c3, c4, c5, c6, c7, c8, d0, d1, d2, d3, d4, d5, d6, d7, d8⟩) ?_
               simp only [Act.put, List.setIfInBounds_toArray, List.set_cons_zero, List.set_cons_succ])
        iterate 2
          first
            | (refine mv_take ?_ (Or.inl ⟨by rfl, ?_⟩) (⟨c0, c1, c2, c3, c4, c5, c6, c7, c8, d0, d1, d2, d3, d4, d5, d6, d7, d8⟩) ?_
               rotate_left 1
               · intro u hu
                 (try dsimp only at hu)
                 go_simp
                 try with_reducible rfl
               simp only [Act.put, List.setIfInBounds_toArray, List.set_cons_zero, List.set_cons_succ])
            | (refine mv_take _ (Or.inr ⟨by rfl, rfl⟩) (⟨c0, c1, c2, c3, c4, c5, c6, c7, c8, d0, d1, d2, d3, d4, d5, d6, d7, d8⟩) ?_
               simp only [Act.put, List.setIfInBounds_toArray, List.set_cons_zero, List.set_cons_succ])
        refine mv_step (fun K hK => ?_)
        go_simp
        refine (N4.out _).mono ?_
        rintro e w35 ⟨rfl, hb35⟩
        have hB35' := Lib.hid (hB34'.out.trans (hb35.mono (by have := hB34'.out.size; have := hz.out; first | omega | (show w.heap.size + 2 ≤ w9.heap.size; omega))))
        clear c0 f0 d0 g0 c1 f1 d1 g1 c2 f2 d2 g2 c3 f3 d3 g3 c4 f4 d4 g4 c5 f5 d5 g5 c6 f6 d6 g6 c7 f7 d7 g7 c8 f8 d8 g8
        clear hb35
        have hA35 := HX.out _ hB35'.out
        have hB35 := HY.out _ hB35'.out
        obtain ⟨c0, f0⟩ := hA35.one 0 rfl
        obtain ⟨c1, f1⟩ := hA35.one 1 rfl
        obtain ⟨c2, f2⟩ := hA35.one 2 rfl
        obtain ⟨c3, f3⟩ := hA35.one 3 rfl
        obtain ⟨c4, f4⟩ := hA35.one 4 rfl
        obtain ⟨c5, f5⟩ := hA35.one 5 rfl
        obtain ⟨c6, f6⟩ := hA35.one 6 rfl
        obtain ⟨c7, f7⟩ := hA35.one 7 rfl
        obtain ⟨c8, f8⟩ := hA35.one 8 rfl
        obtain ⟨d0, g0⟩ := hB35.one 0 rfl
        obtain ⟨d1, g1⟩ := hB35.one 1 rfl
        obtain ⟨d2, g2⟩ := hB35.one 2 rfl
        obtain ⟨d3, g3⟩ := hB35.one 3 rfl
        obtain ⟨d4, g4⟩ := hB35.one 4 rfl
        obtain ⟨d5, g5⟩ := hB35.one 5 rfl
        obtain ⟨d6, g6⟩ := hB35.one 6 rfl
        obtain ⟨d7, g7⟩ := hB35.one 7 rfl
        obtain ⟨d8, g8⟩ := hB35.one 8 rfl
        clear hA35 hB35
        go_wp2_with fail
        refine hK.out _ _ _ (fun u hu => hu) (⟨c0, c1, c2, c3, c4, c5, c6, c7, c8, d0, d1, d2, d3, d4, d5, d6, d7, d8⟩) ?_
        clear hK K
        refine mv_step (fun K hK => ?_)
        go_simp
        refine (N7.out _).mono ?_
        rintro e w36 ⟨rfl, hb36⟩
        have hB36' := Lib.hid (hB35'.out.trans (hb36.mono (by have := hB35'.out.size; have := hz.out; first | omega | (show w.heap.size + 2 ≤ w9.heap.size; omega))))
        clear c0 f0 d0 g0 c1 f1 d1 g1 c2 f2 d2 g2 c3 f3 d3 g3 c4 f4 d4 g4 c5 f5 d5 g5 c6 f6 d6 g6 c7 f7 d7 g7 c8 f8 d8 g8
        clear hb36
        have hA36 := HX.out _ hB36'.out
        have hB36 := HY.out _ hB36'.out
        obtain ⟨c0, f0⟩ := hA36.one 0 rfl
        obtain ⟨c1, f1⟩ := hA36.one 1 rfl
        obtain ⟨c2, f2⟩ := hA36.one 2 rfl
        obtain ⟨c3, f3⟩ := hA36.one 3 rfl
        obtain ⟨c4, f4⟩ := hA36.one 4 rfl
        obtain ⟨c5, f5⟩ := hA36.one 5 rfl
        obtain ⟨c6, f6⟩ := hA36.one 6 rfl
        obtain ⟨c7, f7⟩ := hA36.one 7 rfl
        obtain ⟨c8, f8⟩ := hA36.one 8 rfl
        obtain ⟨d0, g0⟩ := hB36.one 0 rfl
        obtain ⟨d1, g1⟩ := hB36.one 1 rfl
        obtain ⟨d2, g2⟩ := hB36.one 2 rfl
        obtain ⟨d3, g3⟩ := hB36.one 3 rfl
        obtain ⟨d4, g4⟩ := hB36.one 4 rfl
        obtain ⟨d5, g5⟩ := hB36.one 5 rfl
        obtain ⟨d6, g6⟩ := hB36.one 6 rfl
        obtain ⟨d7, g7⟩ := hB36.one 7 rfl
        obtain ⟨d8, g8⟩ := hB36.one 8 rfl
        clear hA36 hB36
        go_wp2_with fail
        refine hK.out _ _ _ (fun u hu => hu) (⟨c0, c1, c2, c3, c4, c5, c6, c7, c8, d0, d1, d2, d3, d4, d5, d6, d7, d8⟩) ?_
        clear hK K
        iterate 2
          first
            | (refine mv_free ?_ (Or.inl ⟨by rfl, ?_⟩) (⟨c0, c1, c2, c3, c4, c5, c6, c7, c8, d0, d1, d2, d3, d4, d5, d6, d7, d8⟩) ?_
               rotate_left 1
               · intro u
                 go_simp
                 try simp only [d1]
                 try simp only [d2]
                 try simp only [d3]
                 try with_reducible rfl
               simp only [Act.put, List.setIfInBounds_toArray, List.set_cons_zero, List.set_cons_succ])
            | (refine mv_free _ (Or.inr ⟨by rfl, rfl⟩) (⟨c0, c1, c2, c3, c4, c5, c6, c7, c8, d0, d1, d2, d3, d4, d5, d6, d7, d8⟩) ?_
               simp only [Act.put, List.setIfInBounds_toArray, List.set_cons_zero, List.set_cons_succ])
        refine mv_done ?_
        clear c0 f0 d0 g0 c1 f1 d1 g1 c2 f2 d2 g2 c3 f3 d3 g3 c4 f4 d4 g4 c5 f5 d5 g5 c6 f6 d6 g6 c7 f7 d7 g7 c8 f8 d8 g8
        clear EQ1 EQ2
        have hX40 := HX.out _ hB36'.out
        obtain ⟨c0, f0⟩ := hX40.one 0 rfl
        obtain ⟨c1, f1⟩ := hX40.one 1 rfl
        obtain ⟨c2, f2⟩ := hX40.one 2 rfl
        obtain ⟨c3, f3⟩ := hX40.one 3 rfl
        obtain ⟨c4, f4⟩ := hX40.one 4 rfl
        obtain ⟨c5, f5⟩ := hX40.one 5 rfl
        obtain ⟨c6, f6⟩ := hX40.one 6 rfl
        obtain ⟨c7, f7⟩ := hX40.one 7 rfl
        obtain ⟨c8, f8⟩ := hX40.one 8 rfl
        clear hX40
        go_wp2_with fail
        refine (NM.out _).mono ?_
        rintro e w40 ⟨rfl, hb40⟩
        have hB40 := hB36'.out.trans (hb40.mono (by have := hB36'.out.size; have := hz.out; omega))
        clear hb40 c0 f0 c1 f1 c2 f2 c3 f3 c4 f4 c5 f5 c6 f6 c7 f7 c8 f8
        go_upto_region 13 with (fail)
        obtain ⟨w41, e41, hm41, hG41⟩ := mcell_box w40 (mir X)
        rw [← e41]
        replace e41 := Lib.hid e41
        obtain ⟨qm, eqm⟩ : ∃ qm, qm = w40.heap.size := ⟨_, rfl⟩
        rw [← eqm] at hG41 ⊢
        have hB41 := hB40.trans (hm41.mono (by have := hB40.size; have := hz.out; omega))
        have hX41 := HX.out _ hB41
        obtain ⟨c0, f0⟩ := hX41.one 0 rfl
        obtain ⟨c1, f1⟩ := hX41.one 1 rfl
        obtain ⟨c2, f2⟩ := hX41.one 2 rfl
        obtain ⟨c3, f3⟩ := hX41.one 3 rfl
        obtain ⟨c4, f4⟩ := hX41.one 4 rfl
        obtain ⟨c5, f5⟩ := hX41.one 5 rfl
        obtain ⟨c6, f6⟩ := hX41.one 6 rfl
        obtain ⟨c7, f7⟩ := hX41.one 7 rfl
        obtain ⟨c8, f8⟩ := hX41.one 8 rfl
        clear hX41 hm41 hB40 eqm
        go_upto_region 14 with (fail)
        obtain ⟨w42, e42, hm42, hC42⟩ := mcell_box w41 X
        rw [← e42]
        replace e42 := Lib.hid e42
        obtain ⟨qc, eqc⟩ : ∃ qc, qc = w41.heap.size := ⟨_, rfl⟩
        rw [← eqc] at hC42 ⊢
        have hmc : qm < qc := by have := hG41.lt; omega
        have hB42 := hB41.trans (hm42.mono (by have := hB41.size; have := hz.out; omega))
        have hG42 := hG41.bel hm42
        have hqc : w.heap.size + 2 ≤ qc := by rw [eqc]; have := hB41.size; have := hz.out; omega
        clear hm42 hB41 hG41 eqc c0 f0 c1 f1 c2 f2 c3 f3 c4 f4 c5 f5 c6 f6 c7 f7 c8 f8
        have hT : Held qc [.int .i64 (twr X 0), .int .i64 (twr X 1), .int .i64 (twr X 2), .int .i64 (twr X 3), .int .i64 (twr X 4), .int .i64 (twr X 5), .int .i64 (twr X 6), .int .i64 (twr X 7), .int .i64 (twr X 8)] (((w42.setCell ⟨qc, 6, none⟩ (.int .i64 (X 3))).setCell ⟨qc, 7, none⟩ (.int .i64 (X 4))).setCell ⟨qc, 8, none⟩ (.int .i64 (X 5))) := ((hC42.set 6 (.int .i64 (X 3)) (by simp)).set 7 (.int .i64 (X 4)) (by simp)).set 8 (.int .i64 (X 5)) (by simp)
        have hG43 := hG42.only ((((Only.refl qc w42).setCell (p := ⟨qc, 6, none⟩) (.int .i64 (X 3))).setCell (p := ⟨qc, 7, none⟩) (.int .i64 (X 4))).setCell (p := ⟨qc, 8, none⟩) (.int .i64 (X 5))) (show qm ≠ qc by omega)
        have hB43 := Lib.hid (((hB42.setCell (p := ⟨qc, 6, none⟩) hqc (.int .i64 (X 3))).setCell (p := ⟨qc, 7, none⟩) hqc (.int .i64 (X 4))).setCell (p := ⟨qc, 8, none⟩) hqc (.int .i64 (X 5)))
        obtain ⟨c0, f0⟩ := hC42.one 0 rfl
        obtain ⟨c1, f1⟩ := hC42.one 1 rfl
        obtain ⟨c2, f2⟩ := hC42.one 2 rfl
        obtain ⟨c3, f3⟩ := hC42.one 3 rfl
        obtain ⟨c4, f4⟩ := hC42.one 4 rfl
        obtain ⟨c5, f5⟩ := hC42.one 5 rfl
        obtain ⟨c6, f6⟩ := hC42.one 6 rfl
        obtain ⟨c7, f7⟩ := hC42.one 7 rfl
        obtain ⟨c8, f8⟩ := hC42.one 8 rfl
        clear hC42 hG42 hB42 hmc hqc
        go_upto_region 15 with (fail)
        generalize ((w42.setCell ⟨qc, 6, none⟩ (.int .i64 (X 3))).setCell ⟨qc, 7, none⟩ (.int .i64 (X 4))).setCell ⟨qc, 8, none⟩ (.int .i64 (X 5)) = w43 at *
        clear c0 f0 c1 f1 c2 f2 c3 f3 c4 f4 c5 f5 c6 f6 c7 f7 c8 f8
        have EQ3 := fun u => meq (mir X 0) (mir X 1) (mir X 2) (mir X 3) (mir X 4) (mir X 5) (mir X 6) (mir X 7) (mir X 8) u
        generalize mir X = G at *
        generalize twr X = T at *
        have hGG := Lib.hid hG43
        have hTT := Lib.hid hT
        have hA44 := hGG.out
        have hB44 := hTT.out
        obtain ⟨c0, f0⟩ := hA44.one 0 rfl
        obtain ⟨c1, f1⟩ := hA44.one 1 rfl
        obtain ⟨c2, f2⟩ := hA44.one 2 rfl
        obtain ⟨c3, f3⟩ := hA44.one 3 rfl
        obtain ⟨c4, f4⟩ := hA44.one 4 rfl
        obtain ⟨c5, f5⟩ := hA44.one 5 rfl
        obtain ⟨c6, f6⟩ := hA44.one 6 rfl
        obtain ⟨c7, f7⟩ := hA44.one 7 rfl
        obtain ⟨c8, f8⟩ := hA44.one 8 rfl
        obtain ⟨d0, g0⟩ := hB44.one 0 rfl
        obtain ⟨d1, g1⟩ := hB44.one 1 rfl
        obtain ⟨d2, g2⟩ := hB44.one 2 rfl
        obtain ⟨d3, g3⟩ := hB44.one 3 rfl
        obtain ⟨d4, g4⟩ := hB44.one 4 rfl
        obtain ⟨d5, g5⟩ := hB44.one 5 rfl
        obtain ⟨d6, g6⟩ := hB44.one 6 rfl
        obtain ⟨d7, g7⟩ := hB44.one 7 rfl
        obtain ⟨d8, g8⟩ := hB44.one 8 rfl
        clear hA44 hB44
        clear hG43 hT
        refine region_moves (fun u => u.cell? ⟨qm, 0, none⟩ = some (.int .i64 (G 0)) ∧ u.cell? ⟨qm, 1, none⟩ = some (.int .i64 (G 1)) ∧ u.cell? ⟨qm, 2, none⟩ = some (.int .i64 (G 2)) ∧ u.cell? ⟨qm, 3, none⟩ = some (.int .i64 (G 3)) ∧ u.cell? ⟨qm, 4, none⟩ = some (.int .i64 (G 4)) ∧ u.cell? ⟨qm, 5, none⟩ = some (.int .i64 (G 5)) ∧ u.cell? ⟨qm, 6, none⟩ = some (.int .i64 (G 6)) ∧ u.cell? ⟨qm, 7, none⟩ = some (.int .i64 (G 7)) ∧ u.cell? ⟨qm, 8, none⟩ = some (.int .i64 (G 8)) ∧ u.cell? ⟨qc, 0, none⟩ = some (.int .i64 (T 0)) ∧ u.cell? ⟨qc, 1, none⟩ = some (.int .i64 (T 1)) ∧ u.cell? ⟨qc, 2, none⟩ = some (.int .i64 (T 2)) ∧ u.cell? ⟨qc, 3, none⟩ = some (.int .i64 (T 3)) ∧ u.cell? ⟨qc, 4, none⟩ = some (.int .i64 (T 4)) ∧ u.cell? ⟨qc, 5, none⟩ = some (.int .i64 (T 5)) ∧ u.cell? ⟨qc, 6, none⟩ = some (.int .i64 (T 6)) ∧ u.cell? ⟨qc, 7, none⟩ = some (.int .i64 (T 7)) ∧ u.cell? ⟨qc, 8, none⟩ = some (.int .i64 (T 8))) [] [(.take, 0), (.step, 1), (.free, 2), (.take, 3), (.take, 5), (.step, 4), (.free, 6), (.free, 7), (.free, 8), (.take, 9), (.step, 10), (.free, 11), (.free, 12), (.free, 13), (.step, 14), (.free, 15), (.free, 16)] _ (by kernel_rfl) (by kernel_rfl) (by kernel_rfl) (by kernel_rfl) (by decide) rfl (fun _ _ _ _ _ h => h) ?_
        simp only [List.filterMap_cons, List.filterMap_nil, List.getElem?_toArray, List.getElem?_cons_zero, List.getElem?_cons_succ, Option.map_some]
        iterate 1
          first
            | (refine mv_take ?_ (Or.inl ⟨by rfl, ?_⟩) (⟨c0, c1, c2, c3, c4, c5, c6, c7, c8, d0, d1, d2, d3, d4, d5, d6, d7, d8⟩) ?_
               rotate_left 1
               · intro u hu
                 (try dsimp only at hu)
                 go_simp
                 try with_reducible rfl
               simp only [Act.put, List.setIfInBounds_toArray, List.set_cons_zero, List.set_cons_succ])
            | (refine mv_take _ (Or.inr ⟨by rfl, rfl⟩) (⟨c0, c1, c2, c3, c4, c5, c6, c7, c8, d0, d1, d2, d3, d4, d5, d6, d7, d8⟩) ?_
               simp only [Act.put, List.setIfInBounds_toArray, List.set_cons_zero, List.set_cons_succ])
        refine mv_step (fun K hK => ?_)
        go_simp
        refine (NS.out _).mono ?_
        rintro e w50 ⟨rfl, hb50⟩
        have hG50' := Lib.hid (hGG.out.drew.bel hb50)
        have hT50' := Lib.hid (hTT.out.drew.bel hb50)
        have hB50' := Lib.hid (hB43.out.drew.trans (hb50.mono (by have := hB43.out.size; have := hz.out; first | omega | (show w.heap.size + 2 ≤ w43.heap.size; omega))))
        clear c0 f0 d0 g0 c1 f1 d1 g1 c2 f2 d2 g2 c3 f3 d3 g3 c4 f4 d4 g4 c5 f5 d5 g5 c6 f6 d6 g6 c7 f7 d7 g7 c8 f8 d8 g8
        clear hb50
        have hA50 := hG50'.out
        have hB50 := hT50'.out
        obtain ⟨c0, f0⟩ := hA50.one 0 rfl
        obtain ⟨c1, f1⟩ := hA50.one 1 rfl
        obtain ⟨c2, f2⟩ := hA50.one 2 rfl
        obtain ⟨c3, f3⟩ := hA50.one 3 rfl
        obtain ⟨c4, f4⟩ := hA50.one 4 rfl
        obtain ⟨c5, f5⟩ := hA50.one 5 rfl
        obtain ⟨c6, f6⟩ := hA50.one 6 rfl
        obtain ⟨c7, f7⟩ := hA50.one 7 rfl
        obtain ⟨c8, f8⟩ := hA50.one 8 rfl
        obtain ⟨d0, g0⟩ := hB50.one 0 rfl
        obtain ⟨d1, g1⟩ := hB50.one 1 rfl
        obtain ⟨d2, g2⟩ := hB50.one 2 rfl
        obtain ⟨d3, g3⟩ := hB50.one 3 rfl
        obtain ⟨d4, g4⟩ := hB50.one 4 rfl
        obtain ⟨d5, g5⟩ := hB50.one 5 rfl
        obtain ⟨d6, g6⟩ := hB50.one 6 rfl
        obtain ⟨d7, g7⟩ := hB50.one 7 rfl
        obtain ⟨d8, g8⟩ := hB50.one 8 rfl
        clear hA50 hB50
        go_wp2_with fail
        refine hK.out _ _ _ (fun u hu => hu) (⟨c0, c1, c2, c3, c4, c5, c6, c7, c8, d0, d1, d2, d3, d4, d5, d6, d7, d8⟩) ?_
        clear hK K
        iterate 1
          first
            | (refine mv_free ?_ (Or.inl ⟨by rfl, ?_⟩) (⟨c0, c1, c2, c3, c4, c5, c6, c7, c8, d0, d1, d2, d3, d4, d5, d6, d7, d8⟩) ?_
               rotate_left 1
               · intro u
                 go_simp
                 try simp only [d1]
                 try simp only [d2]
                 try simp only [d3]
                 try with_reducible rfl
               simp only [Act.put, List.setIfInBounds_toArray, List.set_cons_zero, List.set_cons_succ])
            | (refine mv_free _ (Or.inr ⟨by rfl, rfl⟩) (⟨c0, c1, c2, c3, c4, c5, c6, c7, c8, d0, d1, d2, d3, d4, d5, d6, d7, d8⟩) ?_
               simp only [Act.put, List.setIfInBounds_toArray, List.set_cons_zero, List.set_cons_succ])
        iterate 2
          first
            | (refine mv_take ?_ (Or.inl ⟨by rfl, ?_⟩) (⟨c0, c1, c2, c3, c4, c5, c6, c7, c8, d0, d1, d2, d3, d4, d5, d6, d7, d8⟩) ?_
               rotate_left 1
               · intro u hu
                 (try dsimp only at hu)
                 go_simp
                 try with_reducible rfl
               simp only [Act.put, List.setIfInBounds_toArray, List.set_cons_zero, List.set_cons_succ])
            | (refine mv_take _ (Or.inr ⟨by rfl, rfl⟩) (⟨c0, c1, c2, c3, c4, c5, c6, c7, c8, d0, d1, d2, d3, d4, d5, d6, d7, d8⟩) ?_
               simp only [Act.put, List.setIfInBounds_toArray, List.set_cons_zero, List.set_cons_succ])
        refine mv_step (fun K hK => ?_)
        go_simp
        refine (NR.out _).mono ?_
        rintro e w51 ⟨rfl, hb51⟩
        have hG51' := Lib.hid (hG50'.out.bel hb51)
        have hT51' := Lib.hid (hT50'.out.bel hb51)
        have hB51' := Lib.hid (hB50'.out.trans (hb51.mono (by have := hB50'.out.size; have := hz.out; first | omega | (show w.heap.size + 2 ≤ w43.heap.size; omega))))
        clear c0 f0 d0 g0 c1 f1 d1 g1 c2 f2 d2 g2 c3 f3 d3 g3 c4 f4 d4 g4 c5 f5 d5 g5 c6 f6 d6 g6 c7 f7 d7 g7 c8 f8 d8 g8
        clear hb51
        have hA51 := hG51'.out
        have hB51 := hT51'.out
        obtain ⟨c0, f0⟩ := hA51.one 0 rfl
        obtain ⟨c1, f1⟩ := hA51.one 1 rfl
        obtain ⟨c2, f2⟩ := hA51.one 2 rfl
        obtain ⟨c3, f3⟩ := hA51.one 3 rfl
        obtain ⟨c4, f4⟩ := hA51.one 4 rfl
        obtain ⟨c5, f5⟩ := hA51.one 5 rfl
        obtain ⟨c6, f6⟩ := hA51.one 6 rfl
        obtain ⟨c7, f7⟩ := hA51.one 7 rfl
        obtain ⟨c8, f8⟩ := hA51.one 8 rfl
        obtain ⟨d0, g0⟩ := hB51.one 0 rfl
        obtain ⟨d1, g1⟩ := hB51.one 1 rfl
        obtain ⟨d2, g2⟩ := hB51.one 2 rfl
        obtain ⟨d3, g3⟩ := hB51.one 3 rfl
        obtain ⟨d4, g4⟩ := hB51.one 4 rfl
        obtain ⟨d5, g5⟩ := hB51.one 5 rfl
        obtain ⟨d6, g6⟩ := hB51.one 6 rfl
        obtain ⟨d7, g7⟩ := hB51.one 7 rfl
        obtain ⟨d8, g8⟩ := hB51.one 8 rfl
        clear hA51 hB51
        go_wp2_with fail
        refine hK.out _ _ _ (fun u hu => hu) (⟨c0, c1, c2, c3, c4, c5, c6, c7, c8, d0, d1, d2, d3, d4, d5, d6, d7, d8⟩) ?_
        clear hK K
        iterate 3
          first
            | (refine mv_free ?_ (Or.inl ⟨by rfl, ?_⟩) (⟨c0, c1, c2, c3, c4, c5, c6, c7, c8, d0, d1, d2, d3, d4, d5, d6, d7, d8⟩) ?_
               rotate_left 1
               · intro u
                 go_simp
                 try simp only [d1]
                 try simp only [d2]
                 try simp only [d3]
                 try with_reducible rfl
               simp only [Act.put, List.setIfInBounds_toArray, List.set_cons_zero, List.set_cons_succ])
            | (refine mv_free _ (Or.inr ⟨by rfl, rfl⟩) (⟨c0, c1, c2, c3, c4, c5, c6, c7, c8, d0, d1, d2, d3, d4, d5, d6, d7, d8⟩) ?_
               simp only [Act.put, List.setIfInBounds_toArray, List.set_cons_zero, List.set_cons_succ])
        iterate 1
          first
            | (refine mv_take ?_ (Or.inl ⟨by rfl, ?_⟩) (⟨c0, c1, c2, c3, c4, c5, c6, c7, c8, d0, d1, d2, d3, d4, d5, d6, d7, d8⟩) ?_
               rotate_left 1
               · intro u hu
                 (try dsimp only at hu)
                 go_simp
                 try with_reducible rfl
               simp only [Act.put, List.setIfInBounds_toArray, List.set_cons_zero, List.set_cons_succ])
            | (refine mv_take _ (Or.inr ⟨by rfl, rfl⟩) (⟨c0, c1, c2, c3, c4, c5, c6, c7, c8, d0, d1, d2, d3, d4, d5, d6, d7, d8⟩) ?_
               simp only [Act.put, List.setIfInBounds_toArray, List.set_cons_zero, List.set_cons_succ])
        refine mv_step (fun K hK => ?_)
        go_simp
        refine (ND.out _).mono ?_
        rintro e w52 ⟨rfl, hb52⟩
        have hG52' := Lib.hid (hG51'.out.bel hb52)
        have hT52' := Lib.hid (hT51'.out.bel hb52)
        have hB52' := Lib.hid (hB51'.out.trans (hb52.mono (by have := hB51'.out.size; have := hz.out; first | omega | (show w.heap.size + 2 ≤ w43.heap.size; omega))))
        clear c0 f0 d0 g0 c1 f1 d1 g1 c2 f2 d2 g2 c3 f3 d3 g3 c4 f4 d4 g4 c5 f5 d5 g5 c6 f6 d6 g6 c7 f7 d7 g7 c8 f8 d8 g8
        clear hb52
        have hA52 := hG52'.out
        have hB52 := hT52'.out
        obtain ⟨c0, f0⟩ := hA52.one 0 rfl
        obtain ⟨c1, f1⟩ := hA52.one 1 rfl
        obtain ⟨c2, f2⟩ := hA52.one 2 rfl
        obtain ⟨c3, f3⟩ := hA52.one 3 rfl
        obtain ⟨c4, f4⟩ := hA52.one 4 rfl
        obtain ⟨c5, f5⟩ := hA52.one 5 rfl
        obtain ⟨c6, f6⟩ := hA52.one 6 rfl
        obtain ⟨c7, f7⟩ := hA52.one 7 rfl
        obtain ⟨c8, f8⟩ := hA52.one 8 rfl
        obtain ⟨d0, g0⟩ := hB52.one 0 rfl
        obtain ⟨d1, g1⟩ := hB52.one 1 rfl
        obtain ⟨d2, g2⟩ := hB52.one 2 rfl
        obtain ⟨d3, g3⟩ := hB52.one 3 rfl
        obtain ⟨d4, g4⟩ := hB52.one 4 rfl
        obtain ⟨d5, g5⟩ := hB52.one 5 rfl
        obtain ⟨d6, g6⟩ := hB52.one 6 rfl
        obtain ⟨d7, g7⟩ := hB52.one 7 rfl
        obtain ⟨d8, g8⟩ := hB52.one 8 rfl
        clear hA52 hB52
        go_wp2_with fail
        refine hK.out _ _ _ (fun u hu => hu) (⟨c0, c1, c2, c3, c4, c5, c6, c7, c8, d0, d1, d2, d3, d4, d5, d6, d7, d8⟩) ?_
        clear hK K
        iterate 3
          first
            | (refine mv_free ?_ (Or.inl ⟨by rfl, ?_⟩) (⟨c0, c1, c2, c3, c4, c5, c6, c7, c8, d0, d1, d2, d3, d4, d5, d6, d7, d8⟩) ?_
               rotate_left 1
               · intro u
                 go_simp
                 try simp only [d1]
                 try simp only [d2]
                 try simp only [d3]
                 try with_reducible rfl
               simp only [Act.put, List.setIfInBounds_toArray, List.set_cons_zero, List.set_cons_succ])
            | (refine mv_free _ (Or.inr ⟨by rfl, rfl⟩) (⟨c0, c1, c2, c3, c4, c5, c6, c7, c8, d0, d1, d2, d3, d4, d5, d6, d7, d8⟩) ?_
               simp only [Act.put, List.setIfInBounds_toArray, List.set_cons_zero, List.set_cons_succ])
        refine mv_step (fun K hK => ?_)
        go_simp
        refine (LV.out _).mono ?_
        rintro e w53 ⟨rfl, hb53⟩
        have hG53' := Lib.hid (hG52'.out.bel hb53)
        have hT53' := Lib.hid (hT52'.out.bel hb53)
        have hB53' := Lib.hid (hB52'.out.trans (hb53.mono (by have := hB52'.out.size; have := hz.out; first | omega | (show w.heap.size + 2 ≤ w43.heap.size; omega))))
        clear c0 f0 d0 g0 c1 f1 d1 g1 c2 f2 d2 g2 c3 f3 d3 g3 c4 f4 d4 g4 c5 f5 d5 g5 c6 f6 d6 g6 c7 f7 d7 g7 c8 f8 d8 g8
        clear hb53
        have hA53 := hG53'.out
        have hB53 := hT53'.out
        obtain ⟨c0, f0⟩ := hA53.one 0 rfl
        obtain ⟨c1, f1⟩ := hA53.one 1 rfl
        obtain ⟨c2, f2⟩ := hA53.one 2 rfl
        obtain ⟨c3, f3⟩ := hA53.one 3 rfl
        obtain ⟨c4, f4⟩ := hA53.one 4 rfl
        obtain ⟨c5, f5⟩ := hA53.one 5 rfl
        obtain ⟨c6, f6⟩ := hA53.one 6 rfl
        obtain ⟨c7, f7⟩ := hA53.one 7 rfl
        obtain ⟨c8, f8⟩ := hA53.one 8 rfl
        obtain ⟨d0, g0⟩ := hB53.one 0 rfl
        obtain ⟨d1, g1⟩ := hB53.one 1 rfl
        obtain ⟨d2, g2⟩ := hB53.one 2 rfl
        obtain ⟨d3, g3⟩ := hB53.one 3 rfl
        obtain ⟨d4, g4⟩ := hB53.one 4 rfl
        obtain ⟨d5, g5⟩ := hB53.one 5 rfl
        obtain ⟨d6, g6⟩ := hB53.one 6 rfl
        obtain ⟨d7, g7⟩ := hB53.one 7 rfl
        obtain ⟨d8, g8⟩ := hB53.one 8 rfl
        clear hA53 hB53
        go_wp2_with fail
        refine hK.out _ _ _ (fun u hu => hu) (⟨c0, c1, c2, c3, c4, c5, c6, c7, c8, d0, d1, d2, d3, d4, d5, d6, d7, d8⟩) ?_
        clear hK K
        iterate 2
          first
            | (refine mv_free ?_ (Or.inl ⟨by rfl, ?_⟩) (⟨c0, c1, c2, c3, c4, c5, c6, c7, c8, d0, d1, d2, d3, d4, d5, d6, d7, d8⟩) ?_
               rotate_left 1
               · intro u
                 go_simp
                 try simp only [d1]
                 try simp only [d2]
                 try simp only [d3]
                 try with_reducible rfl
               simp only [Act.put, List.setIfInBounds_toArray, List.set_cons_zero, List.set_cons_succ])
            | (refine mv_free _ (Or.inr ⟨by rfl, rfl⟩) (⟨c0, c1, c2, c3, c4, c5, c6, c7, c8, d0, d1, d2, d3, d4, d5, d6, d7, d8⟩) ?_
               simp only [Act.put, List.setIfInBounds_toArray, List.set_cons_zero, List.set_cons_succ])
        refine mv_done ?_
        go_wp2
        go_ret
        exact ⟨rfl, hb0.out.trans (hB53'.out.mono (by omega))⟩
      · have hall := allW_at hW
        have M1 := fun u => mmul X unt u
        simp only [mul_unit hall 0 (by omega), mul_unit hall 1 (by omega), mul_unit hall 2 (by omega), mul_unit hall 3 (by omega), mul_unit hall 4 (by omega), mul_unit hall 5 (by omega), mul_unit hall 6 (by omega), mul_unit hall 7 (by omega), mul_unit hall 8 (by omega)] at M1
        have M2 := fun u => mmul unt X u
        simp only [unit_mul hall 0 (by omega), unit_mul hall 1 (by omega), unit_mul hall 2 (by omega), unit_mul hall 3 (by omega), unit_mul hall 4 (by omega), unit_mul hall 5 (by omega), unit_mul hall 6 (by omega), unit_mul hall 7 (by omega), unit_mul hall 8 (by omega)] at M2
        have M3 := fun u => mapply unt X u
        simp only [apl_unit (fun t ht => hall t (by omega)) 0 (by omega), apl_unit (fun t ht => hall t (by omega)) 1 (by omega), apl_unit (fun t ht => hall t (by omega)) 2 (by omega)] at M3
        replace M1 := Lib.hid M1
        replace M2 := Lib.hid M2
        replace M3 := Lib.hid M3
        have EQ := fun u => meq (X 0) (X 1) (X 2) (X 3) (X 4) (X 5) (X 6) (X 7) (X 8) u
        have EV := fun u => veq (X 0) (X 1) (X 2) u
        have HU := Lib.hid (fun u (h : Below w2.heap.size w2 u) => hU2.bel h)
        have hz2 := Lib.hid (show w.heap.size + 2 ≤ w2.heap.size from by have := hB2.out.size; have := hz.out; omega)
        clear hW hall hU2
        have hA3 := HX.out _ hB2.out
        have hB3 := HU.out _ (Below.refl _ _)
        obtain ⟨c0, f0⟩ := hA3.one 0 rfl
        obtain ⟨c1, f1⟩ := hA3.one 1 rfl
        obtain ⟨c2, f2⟩ := hA3.one 2 rfl
        obtain ⟨c3, f3⟩ := hA3.one 3 rfl
        obtain ⟨c4, f4⟩ := hA3.one 4 rfl
        obtain ⟨c5, f5⟩ := hA3.one 5 rfl
        obtain ⟨c6, f6⟩ := hA3.one 6 rfl
        obtain ⟨c7, f7⟩ := hA3.one 7 rfl
        obtain ⟨c8, f8⟩ := hA3.one 8 rfl
        obtain ⟨d0, g0⟩ := hB3.one 0 rfl
        obtain ⟨d1, g1⟩ := hB3.one 1 rfl
        obtain ⟨d2, g2⟩ := hB3.one 2 rfl
        obtain ⟨d3, g3⟩ := hB3.one 3 rfl
        obtain ⟨d4, g4⟩ := hB3.one 4 rfl
        obtain ⟨d5, g5⟩ := hB3.one 5 rfl
        obtain ⟨d6, g6⟩ := hB3.one 6 rfl
        obtain ⟨d7, g7⟩ := hB3.one 7 rfl
        obtain ⟨d8, g8⟩ := hB3.one 8 rfl
        clear hA3 hB3
        refine region_moves (fun u => u.cell? ⟨w.heap.size, 0, none⟩ = some (.int .i64 (X 0)) ∧ u.cell? ⟨w.heap.size, 1, none⟩ = some (.int .i64 (X 1)) ∧ u.cell? ⟨w.heap.size, 2, none⟩ = some (.int .i64 (X 2)) ∧ u.cell? ⟨w.heap.size, 3, none⟩ = some (.int .i64 (X 3)) ∧ u.cell? ⟨w.heap.size, 4, none⟩ = some (.int .i64 (X 4)) ∧ u.cell? ⟨w.heap.size, 5, none⟩ = some (.int .i64 (X 5)) ∧ u.cell? ⟨w.heap.size, 6, none⟩ = some (.int .i64 (X 6)) ∧ u.cell? ⟨w.heap.size, 7, none⟩ = some (.int .i64 (X 7)) ∧ u.cell? ⟨w.heap.size, 8, none⟩ = some (.int .i64 (X 8)) ∧ u.cell? ⟨q, 0, none⟩ = some (.int .i64 (unt 0)) ∧ u.cell? ⟨q, 1, none⟩ = some (.int .i64 (unt 1)) ∧ u.cell? ⟨q, 2, none⟩ = some (.int .i64 (unt 2)) ∧ u.cell? ⟨q, 3, none⟩ = some (.int .i64 (unt 3)) ∧ u.cell? ⟨q, 4, none⟩ = some (.int .i64 (unt 4)) ∧ u.cell? ⟨q, 5, none⟩ = some (.int .i64 (unt 5)) ∧ u.cell? ⟨q, 6, none⟩ = some (.int .i64 (unt 6)) ∧ u.cell? ⟨q, 7, none⟩ = some (.int .i64 (unt 7)) ∧ u.cell? ⟨q, 8, none⟩ = some (.int .i64 (unt 8))) [] [(.free, 0), (.free, 1), (.take, 2), (.take, 3), (.take, 5), (.step, 4), (.free, 6), (.free, 7), (.take, 8), (.take, 9), (.take, 11), (.step, 10), (.free, 12), (.free, 13), (.free, 14), (.take, 15), (.free, 16), (.take, 17), (.free, 19), (.take, 20), (.step, 18), (.free, 21), (.free, 22), (.free, 23)] _ (by kernel_rfl) (by kernel_rfl) (by kernel_rfl) (by kernel_rfl) (by decide) rfl (fun _ _ _ _ _ h => h) ?_
        simp only [List.filterMap_cons, List.filterMap_nil, List.getElem?_toArray, List.getElem?_cons_zero, List.getElem?_cons_succ, Option.map_some]
        iterate 2
          first
            | (refine mv_free ?_ (Or.inl ⟨by rfl, ?_⟩) (⟨c0, c1, c2, c3, c4, c5, c6, c7, c8, d0, d1, d2, d3, d4, d5, d6, d7, d8⟩) ?_
               rotate_left 1
               · intro u
                 go_simp
                 try simp only [d1]
                 try simp only [d2]
                 try simp only [d3]
                 try with_reducible rfl
               simp only [Act.put, List.setIfInBounds_toArray, List.set_cons_zero, List.set_cons_succ])
            | (refine mv_free _ (Or.inr ⟨by rfl, rfl⟩) (⟨c0, c1, c2, c3, c4, c5, c6, c7, c8, d0, d1, d2, d3, d4, d5, d6, d7, d8⟩) ?_
               simp only [Act.put, List.setIfInBounds_toArray, List.set_cons_zero, List.set_cons_succ])
        iterate 3
          first
            | (refine mv_take ?_ (Or.inl ⟨by rfl, ?_⟩) (⟨c0, c1, c2, c3, c4, c5, c6, c7, c8, d0, d1, d2, d3, d4, d5, d6, d7, d8⟩) ?_
               rotate_left 1
               · intro u hu
                 (try dsimp only at hu)
                 go_simp
                 try with_reducible rfl
               simp only [Act.put, List.setIfInBounds_toArray, List.set_cons_zero, List.set_cons_succ])
            | (refine mv_take _ (Or.inr ⟨by rfl, rfl⟩) (⟨c0, c1, c2, c3, c4, c5, c6, c7, c8, d0, d1, d2, d3, d4, d5, d6, d7, d8⟩) ?_
               simp only [Act.put, List.setIfInBounds_toArray, List.set_cons_zero, List.set_cons_succ])
        refine mv_step (fun K hK => ?_)
        go_simp
        refine (M1.out _).mono ?_
        rintro e w4 ⟨rfl, hb4⟩
        have hL4 := Lib.hid ((Below.refl w2.heap.size w2).drew.trans (hb4.mono (by exact Nat.le_refl _)))
        clear c0 f0 d0 g0 c1 f1 d1 g1 c2 f2 d2 g2 c3 f3 d3 g3 c4 f4 d4 g4 c5 f5 d5 g5 c6 f6 d6 g6 c7 f7 d7 g7 c8 f8 d8 g8
        clear hb4
        have hA4 := HX.out _ (hB2.out.trans (hL4.out.mono hz2.out))
        have hB4 := HU.out _ hL4.out
        obtain ⟨c0, f0⟩ := hA4.one 0 rfl
        obtain ⟨c1, f1⟩ := hA4.one 1 rfl
        obtain ⟨c2, f2⟩ := hA4.one 2 rfl
        obtain ⟨c3, f3⟩ := hA4.one 3 rfl
        obtain ⟨c4, f4⟩ := hA4.one 4 rfl
        obtain ⟨c5, f5⟩ := hA4.one 5 rfl
        obtain ⟨c6, f6⟩ := hA4.one 6 rfl
        obtain ⟨c7, f7⟩ := hA4.one 7 rfl
        obtain ⟨c8, f8⟩ := hA4.one 8 rfl
        obtain ⟨d0, g0⟩ := hB4.one 0 rfl
        obtain ⟨d1, g1⟩ := hB4.one 1 rfl
        obtain ⟨d2, g2⟩ := hB4.one 2 rfl
        obtain ⟨d3, g3⟩ := hB4.one 3 rfl
        obtain ⟨d4, g4⟩ := hB4.one 4 rfl
        obtain ⟨d5, g5⟩ := hB4.one 5 rfl
        obtain ⟨d6, g6⟩ := hB4.one 6 rfl
        obtain ⟨d7, g7⟩ := hB4.one 7 rfl
        obtain ⟨d8, g8⟩ := hB4.one 8 rfl
        clear hA4 hB4
        go_wp2_with fail
        refine hK.out _ _ _ (fun u hu => hu) (⟨c0, c1, c2, c3, c4, c5, c6, c7, c8, d0, d1, d2, d3, d4, d5, d6, d7, d8⟩) ?_
        clear hK K
        iterate 2
          first
            | (refine mv_free ?_ (Or.inl ⟨by rfl, ?_⟩) (⟨c0, c1, c2, c3, c4, c5, c6, c7, c8, d0, d1, d2, d3, d4, d5, d6, d7, d8⟩) ?_
               rotate_left 1
               · intro u
                 go_simp
                 try simp only [d1]
                 try simp only [d2]
                 try simp only [d3]
                 try with_reducible rfl
               simp only [Act.put, List.setIfInBounds_toArray, List.set_cons_zero, List.set_cons_succ])
            | (refine mv_free _ (Or.inr ⟨by rfl, rfl⟩) (⟨c0, c1, c2, c3, c4, c5, c6, c7, c8, d0, d1, d2, d3, d4, d5, d6, d7, d8⟩) ?_
               simp only [Act.put, List.setIfInBounds_toArray, List.set_cons_zero, List.set_cons_succ])
        iterate 3
          first
            | (refine mv_take ?_ (Or.inl ⟨by rfl, ?_⟩) (⟨c0, c1, c2, c3, c4, c5, c6, c7, c8, d0, d1, d2, d3, d4, d5, d6, d7, d8⟩) ?_
               rotate_left 1
               · intro u hu
                 (try dsimp only at hu)
                 go_simp
                 try with_reducible rfl
               simp only [Act.put, List.setIfInBounds_toArray, List.set_cons_zero, List.set_cons_succ])
            | (refine mv_take _ (Or.inr ⟨by rfl, rfl⟩) (⟨c0, c1, c2, c3, c4, c5, c6, c7, c8, d0, d1, d2, d3, d4, d5, d6, d7, d8⟩) ?_
               simp only [Act.put, List.setIfInBounds_toArray, List.set_cons_zero, List.set_cons_succ])
        refine mv_step (fun K hK => ?_)
        go_simp
        refine (M2.out _).mono ?_
        rintro e w5 ⟨rfl, hb5⟩
        have hL5 := Lib.hid (hL4.out.trans (hb5.mono (by have := hL4.out.size; exact this)))
        clear c0 f0 d0 g0 c1 f1 d1 g1 c2 f2 d2 g2 c3 f3 d3 g3 c4 f4 d4 g4 c5 f5 d5 g5 c6 f6 d6 g6 c7 f7 d7 g7 c8 f8 d8 g8
        clear hb5
        have hA5 := HX.out _ (hB2.out.trans (hL5.out.mono hz2.out))
        have hB5 := HU.out _ hL5.out
        obtain ⟨c0, f0⟩ := hA5.one 0 rfl
        obtain ⟨c1, f1⟩ := hA5.one 1 rfl
        obtain ⟨c2, f2⟩ := hA5.one 2 rfl
        obtain ⟨c3, f3⟩ := hA5.one 3 rfl
        obtain ⟨c4, f4⟩ := hA5.one 4 rfl
        obtain ⟨c5, f5⟩ := hA5.one 5 rfl
        obtain ⟨c6, f6⟩ := hA5.one 6 rfl
        obtain ⟨c7, f7⟩ := hA5.one 7 rfl
        obtain ⟨c8, f8⟩ := hA5.one 8 rfl
        obtain ⟨d0, g0⟩ := hB5.one 0 rfl
        obtain ⟨d1, g1⟩ := hB5.one 1 rfl
        obtain ⟨d2, g2⟩ := hB5.one 2 rfl
        obtain ⟨d3, g3⟩ := hB5.one 3 rfl
        obtain ⟨d4, g4⟩ := hB5.one 4 rfl
        obtain ⟨d5, g5⟩ := hB5.one 5 rfl
        obtain ⟨d6, g6⟩ := hB5.one 6 rfl
        obtain ⟨d7, g7⟩ := hB5.one 7 rfl
        obtain ⟨d8, g8⟩ := hB5.one 8 rfl
        clear hA5 hB5
        go_wp2_with fail
        refine hK.out _ _ _ (fun u hu => hu) (⟨c0, c1, c2, c3, c4, c5, c6, c7, c8, d0, d1, d2, d3, d4, d5, d6, d7, d8⟩) ?_
        clear hK K
        iterate 3
          first
            | (refine mv_free ?_ (Or.inl ⟨by rfl, ?_⟩) (⟨c0, c1, c2, c3, c4, c5, c6, c7, c8, d0, d1, d2, d3, d4, d5, d6, d7, d8⟩) ?_
               rotate_left 1
               · intro u
                 go_simp
                 try simp only [d1]
                 try simp only [d2]
                 try simp only [d3]
                 try with_reducible rfl
               simp only [Act.put, List.setIfInBounds_toArray, List.set_cons_zero, List.set_cons_succ])
            | (refine mv_free _ (Or.inr ⟨by rfl, rfl⟩) (⟨c0, c1, c2, c3, c4, c5, c6, c7, c8, d0, d1, d2, d3, d4, d5, d6, d7, d8⟩) ?_
               simp only [Act.put, List.setIfInBounds_toArray, List.set_cons_zero, List.set_cons_succ])
        iterate 1
          first
            | (refine mv_take ?_ (Or.inl ⟨by rfl, ?_⟩) (⟨c0, c1, c2, c3, c4, c5, c6, c7, c8, d0, d1, d2, d3, d4, d5, d6, d7, d8⟩) ?_
               rotate_left 1
               · intro u hu
                 (try dsimp only at hu)
                 go_simp
                 try with_reducible rfl
               simp only [Act.put, List.setIfInBounds_toArray, List.set_cons_zero, List.set_cons_succ])
            | (refine mv_take _ (Or.inr ⟨by rfl, rfl⟩) (⟨c0, c1, c2, c3, c4, c5, c6, c7, c8, d0, d1, d2, d3, d4, d5, d6, d7, d8⟩) ?_
               simp only [Act.put, List.setIfInBounds_toArray, List.set_cons_zero, List.set_cons_succ])
        iterate 1
          first
            | (refine mv_free ?_ (Or.inl ⟨by rfl, ?_⟩) (⟨c0, c1, c2, c3, c4, c5, c6, c7, c8, d0, d1, d2, d3, d4, d5, d6, d7, d8⟩) ?_
               rotate_left 1
               · intro u
                 go_simp
                 try simp only [d1]
                 try simp only [d2]
                 try simp only [d3]
                 try with_reducible rfl
               simp only [Act.put, List.setIfInBounds_toArray, List.set_cons_zero, List.set_cons_succ])
            | (refine mv_free _ (Or.inr ⟨by rfl, rfl⟩) (⟨c0, c1, c2, c3, c4, c5, c6, c7, c8, d0, d1, d2, d3, d4, d5, d6, d7, d8⟩) ?_
               simp only [Act.put, List.setIfInBounds_toArray, List.set_cons_zero, List.set_cons_succ])
        iterate 1
          first
            | (refine mv_take ?_ (Or.inl ⟨by rfl, ?_⟩) (⟨c0, c1, c2, c3, c4, c5, c6, c7, c8, d0, d1, d2, d3, d4, d5, d6, d7, d8⟩) ?_
               rotate_left 1
               · intro u hu
                 (try dsimp only at hu)
                 go_simp
                 try with_reducible rfl
               simp only [Act.put, List.setIfInBounds_toArray, List.set_cons_zero, List.set_cons_succ])
            | (refine mv_take _ (Or.inr ⟨by rfl, rfl⟩) (⟨c0, c1, c2, c3, c4, c5, c6, c7, c8, d0, d1, d2, d3, d4, d5, d6, d7, d8⟩) ?_
               simp only [Act.put, List.setIfInBounds_toArray, List.set_cons_zero, List.set_cons_succ])
        iterate 1
          first
            | (refine mv_free ?_ (Or.inl ⟨by rfl, ?_⟩) (⟨c0, c1, c2, c3, c4, c5, c6, c7, c8, d0, d1, d2, d3, d4, d5, d6, d7, d8⟩) ?_
               rotate_left 1
               · intro u
                 go_simp
                 try simp only [d1]
                 try simp only [d2]
                 try simp only [d3]
                 try with_reducible rfl
               simp only [Act.put, List.setIfInBounds_toArray, List.set_cons_zero, List.set_cons_succ])
            | (refine mv_free _ (Or.inr ⟨by rfl, rfl⟩) (⟨c0, c1, c2, c3, c4, c5, c6, c7, c8, d0, d1, d2, d3, d4, d5, d6, d7, d8⟩) ?_
               simp only [Act.put, List.setIfInBounds_toArray, List.set_cons_zero, List.set_cons_succ])
        iterate 1
          first
            | (refine mv_take ?_ (Or.inl ⟨by rfl, ?_⟩) (⟨c0, c1, c2, c3, c4, c5, c6, c7, c8, d0, d1, d2, d3, d4, d5, d6, d7, d8⟩) ?_
               rotate_left 1
               · intro u hu
                 (try dsimp only at hu)
                 go_simp
                 try with_reducible rfl
               simp only [Act.put, List.setIfInBounds_toArray, List.set_cons_zero, List.set_cons_succ])
            | (refine mv_take _ (Or.inr ⟨by rfl, rfl⟩) (⟨c0, c1, c2, c3, c4, c5, c6, c7, c8, d0, d1, d2, d3, d4, d5, d6, d7, d8⟩) ?_
               simp only [Act.put, List.setIfInBounds_toArray, List.set_cons_zero, List.set_cons_succ])
        refine mv_step (fun K hK => ?_)
        go_simp
        refine (M3.out _).mono ?_
        rintro e w6 ⟨rfl, hb6⟩
        have hL6 := Lib.hid (hL5.out.trans (hb6.mono (by have := hL5.out.size; exact this)))
        clear c0 f0 d0 g0 c1 f1 d1 g1 c2 f2 d2 g2 c3 f3 d3 g3 c4 f4 d4 g4 c5 f5 d5 g5 c6 f6 d6 g6 c7 f7 d7 g7 c8 f8 d8 g8
        clear hb6
        have hA6 := HX.out _ (hB2.out.trans (hL6.out.mono hz2.out))
        have hB6 := HU.out _ hL6.out
        obtain ⟨c0, f0⟩ := hA6.one 0 rfl
        obtain ⟨c1, f1⟩ := hA6.one 1 rfl
        obtain ⟨c2, f2⟩ := hA6.one 2 rfl
        obtain ⟨c3, f3⟩ := hA6.one 3 rfl
        obtain ⟨c4, f4⟩ := hA6.one 4 rfl
        obtain ⟨c5, f5⟩ := hA6.one 5 rfl
        obtain ⟨c6, f6⟩ := hA6.one 6 rfl
        obtain ⟨c7, f7⟩ := hA6.one 7 rfl
        obtain ⟨c8, f8⟩ := hA6.one 8 rfl
        obtain ⟨d0, g0⟩ := hB6.one 0 rfl
        obtain ⟨d1, g1⟩ := hB6.one 1 rfl
        obtain ⟨d2, g2⟩ := hB6.one 2 rfl
        obtain ⟨d3, g3⟩ := hB6.one 3 rfl
        obtain ⟨d4, g4⟩ := hB6.one 4 rfl
        obtain ⟨d5, g5⟩ := hB6.one 5 rfl
        obtain ⟨d6, g6⟩ := hB6.one 6 rfl
        obtain ⟨d7, g7⟩ := hB6.one 7 rfl
        obtain ⟨d8, g8⟩ := hB6.one 8 rfl
        clear hA6 hB6
        go_wp2_with fail
        refine hK.out _ _ _ (fun u hu => hu) (⟨c0, c1, c2, c3, c4, c5, c6, c7, c8, d0, d1, d2, d3, d4, d5, d6, d7, d8⟩) ?_
        clear hK K
        iterate 3
          first
            | (refine mv_free ?_ (Or.inl ⟨by rfl, ?_⟩) (⟨c0, c1, c2, c3, c4, c5, c6, c7, c8, d0, d1, d2, d3, d4, d5, d6, d7, d8⟩) ?_
               rotate_left 1
               · intro u
                 go_simp
                 try simp only [d1]
                 try simp only [d2]
                 try simp only [d3]
                 try with_reducible rfl
               simp only [Act.put, List.setIfInBounds_toArray, List.set_cons_zero, List.set_cons_succ])
            | (refine mv_free _ (Or.inr ⟨by rfl, rfl⟩) (⟨c0, c1, c2, c3, c4, c5, c6, c7, c8, d0, d1, d2, d3, d4, d5, d6, d7, d8⟩) ?_
               simp only [Act.put, List.setIfInBounds_toArray, List.set_cons_zero, List.set_cons_succ])
        refine mv_done ?_
        have hB9 := Lib.hid (hB2.out.trans (hL6.out.mono hz2.out))
        clear c0 f0 d0 g0 c1 f1 d1 g1 c2 f2 d2 g2 c3 f3 d3 g3 c4 f4 d4 g4 c5 f5 d5 g5 c6 f6 d6 g6 c7 f7 d7 g7 c8 f8 d8 g8
        clear hB2 hL4 hL5 hL6 HU hz2 M1 M2 M3 EQ EV e2
        have N1 := fun u => mmul X Y u
        have N2 := fun u => mturn (mul X Y) u
        have N3 := Lib.hid (fun u => mturn Y u)
        have N4 := Lib.hid (fun u => mturn X u)
        have N5 := fun u => mmul (trp Y) (trp X) u
        simp only [trp_mul X Y 0 (by omega), trp_mul X Y 1 (by omega), trp_mul X Y 2 (by omega), trp_mul X Y 3 (by omega), trp_mul X Y 4 (by omega), trp_mul X Y 5 (by omega), trp_mul X Y 6 (by omega), trp_mul X Y 7 (by omega), trp_mul X Y 8 (by omega)] at N5
        have N7 := fun u => mturn (trp X) u
        simp only [trp_trp X 0 (by omega), trp_trp X 1 (by omega), trp_trp X 2 (by omega), trp_trp X 3 (by omega), trp_trp X 4 (by omega), trp_trp X 5 (by omega), trp_trp X 6 (by omega), trp_trp X 7 (by omega), trp_trp X 8 (by omega)] at N7
        have ND := fun u => mdet (twr X) u
        rw [det_two] at ND
        have NS := Lib.hid (fun u => msym (mir X) (mir_sym X) u)
        have NM := Lib.hid (fun u => mmirror X u)
        have NR := fun u => mmirror (mir X) u
        simp only [mir_mir X 0 (by omega), mir_mir X 1 (by omega), mir_mir X 2 (by omega), mir_mir X 3 (by omega), mir_mir X 4 (by omega), mir_mir X 5 (by omega), mir_mir X 6 (by omega), mir_mir X 7 (by omega), mir_mir X 8 (by omega)] at NR
        generalize trp (mul X Y) = Q at *
        generalize mul X Y = P at *
        generalize trp Y = Y1 at *
        generalize trp X = X1 at *
        replace N1 := Lib.hid N1
        replace N2 := Lib.hid N2
        replace N5 := Lib.hid N5
        replace N7 := Lib.hid N7
        replace ND := Lib.hid ND
        replace NR := Lib.hid NR
        have EQ1 := fun u => meq (Q 0) (Q 1) (Q 2) (Q 3) (Q 4) (Q 5) (Q 6) (Q 7) (Q 8) u
        have EQ2 := fun u => meq (X 0) (X 1) (X 2) (X 3) (X 4) (X 5) (X 6) (X 7) (X 8) u
        have hA20 := HX.out _ hB9.out
        have hB20 := HY.out _ hB9.out
        obtain ⟨c0, f0⟩ := hA20.one 0 rfl
        obtain ⟨c1, f1⟩ := hA20.one 1 rfl
        obtain ⟨c2, f2⟩ := hA20.one 2 rfl
        obtain ⟨c3, f3⟩ := hA20.one 3 rfl
        obtain ⟨c4, f4⟩ := hA20.one 4 rfl
        obtain ⟨c5, f5⟩ := hA20.one 5 rfl
        obtain ⟨c6, f6⟩ := hA20.one 6 rfl
        obtain ⟨c7, f7⟩ := hA20.one 7 rfl
        obtain ⟨c8, f8⟩ := hA20.one 8 rfl
        obtain ⟨d0, g0⟩ := hB20.one 0 rfl
        obtain ⟨d1, g1⟩ := hB20.one 1 rfl
        obtain ⟨d2, g2⟩ := hB20.one 2 rfl
        obtain ⟨d3, g3⟩ := hB20.one 3 rfl
        obtain ⟨d4, g4⟩ := hB20.one 4 rfl
        obtain ⟨d5, g5⟩ := hB20.one 5 rfl
        obtain ⟨d6, g6⟩ := hB20.one 6 rfl
        obtain ⟨d7, g7⟩ := hB20.one 7 rfl
        obtain ⟨d8, g8⟩ := hB20.one 8 rfl
        clear hA20 hB20
        go_wp2_with fail
        refine region_moves (fun u => u.cell? ⟨w.heap.size, 0, none⟩ = some (.int .i64 (X 0)) ∧ u.cell? ⟨w.heap.size, 1, none⟩ = some (.int .i64 (X 1)) ∧ u.cell? ⟨w.heap.size, 2, none⟩ = some (.int .i64 (X 2)) ∧ u.cell? ⟨w.heap.size, 3, none⟩ = some (.int .i64 (X 3)) ∧ u.cell? ⟨w.heap.size, 4, none⟩ = some (.int .i64 (X 4)) ∧ u.cell? ⟨w.heap.size, 5, none⟩ = some (.int .i64 (X 5)) ∧ u.cell? ⟨w.heap.size, 6, none⟩ = some (.int .i64 (X 6)) ∧ u.cell? ⟨w.heap.size, 7, none⟩ = some (.int .i64 (X 7)) ∧ u.cell? ⟨w.heap.size, 8, none⟩ = some (.int .i64 (X 8)) ∧ u.cell? ⟨w.heap.size + 1, 0, none⟩ = some (.int .i64 (Y 0)) ∧ u.cell? ⟨w.heap.size + 1, 1, none⟩ = some (.int .i64 (Y 1)) ∧ u.cell? ⟨w.heap.size + 1, 2, none⟩ = some (.int .i64 (Y 2)) ∧ u.cell? ⟨w.heap.size + 1, 3, none⟩ = some (.int .i64 (Y 3)) ∧ u.cell? ⟨w.heap.size + 1, 4, none⟩ = some (.int .i64 (Y 4)) ∧ u.cell? ⟨w.heap.size + 1, 5, none⟩ = some (.int .i64 (Y 5)) ∧ u.cell? ⟨w.heap.size + 1, 6, none⟩ = some (.int .i64 (Y 6)) ∧ u.cell? ⟨w.heap.size + 1, 7, none⟩ = some (.int .i64 (Y 7)) ∧ u.cell? ⟨w.heap.size + 1, 8, none⟩ = some (.int .i64 (Y 8))) [] [(.take, 0), (.take, 1), (.take, 4), (.take, 6), (.step, 2), (.step, 3), (.step, 5), (.step, 7), (.step, 8), (.free, 9), (.free, 10), (.take, 11), (.take, 14), (.step, 12), (.step, 13), (.free, 15), (.free, 16)] _ (by kernel_rfl) (by kernel_rfl) (by kernel_rfl) (by kernel_rfl) (by decide) rfl (fun _ _ _ _ _ h => h) ?_
        simp only [List.filterMap_cons, List.filterMap_nil, List.getElem?_toArray, List.getElem?_cons_zero, List.getElem?_cons_succ, Option.map_some]
        iterate 4
          first
            | (refine mv_take ?_ (Or.inl ⟨by rfl, ?_⟩) (⟨c0, c1, c2, c3, c4, c5, c6, c7, c8, d0, d1, d2, d3, d4, d5, d6, d7, d8⟩) ?_
               rotate_left 1
               · intro u hu
                 (try dsimp only at hu)
                 go_simp
                 try with_reducible rfl
               simp only [Act.put, List.setIfInBounds_toArray, List.set_cons_zero, List.set_cons_succ])
            | (refine mv_take _ (Or.inr ⟨by rfl, rfl⟩) (⟨c0, c1, c2, c3, c4, c5, c6, c7, c8, d0, d1, d2, d3, d4, d5, d6, d7, d8⟩) ?_
               simp only [Act.put, List.setIfInBounds_toArray, List.set_cons_zero, List.set_cons_succ])
        refine mv_step (fun K hK => ?_)
        go_simp
        refine (N1.out _).mono ?_
        rintro e w30 ⟨rfl, hb30⟩
        have hB30' := Lib.hid (hB9.out.drew.trans (hb30.mono (by have := hB9.out.size; have := hz.out; first | omega | (show w.heap.size + 2 ≤ w6.heap.size; omega))))
        clear c0 f0 d0 g0 c1 f1 d1 g1 c2 f2 d2 g2 c3 f3 d3 g3 c4 f4 d4 g4 c5 f5 d5 g5 c6 f6 d6 g6 c7 f7 d7 g7 c8 f8 d8 g8
        clear hb30
        have hA30 := HX.out _ hB30'.out
        have hB30 := HY.out _ hB30'.out
        obtain ⟨c0, f0⟩ := hA30.one 0 rfl
        obtain ⟨c1, f1⟩ := hA30.one 1 rfl
        obtain ⟨c2, f2⟩ := hA30.one 2 rfl
        obtain ⟨c3, f3⟩ := hA30.one 3 rfl
        obtain ⟨c4, f4⟩ := hA30.one 4 rfl
        obtain ⟨c5, f5⟩ := hA30.one 5 rfl
        obtain ⟨c6, f6⟩ := hA30.one 6 rfl
        obtain ⟨c7, f7⟩ := hA30.one 7 rfl
        obtain ⟨c8, f8⟩ := hA30.one 8 rfl
        obtain ⟨d0, g0⟩ := hB30.one 0 rfl
        obtain ⟨d1, g1⟩ := hB30.one 1 rfl
        obtain ⟨d2, g2⟩ := hB30.one 2 rfl
        obtain ⟨d3, g3⟩ := hB30.one 3 rfl
        obtain ⟨d4, g4⟩ := hB30.one 4 rfl
        obtain ⟨d5, g5⟩ := hB30.one 5 rfl
        obtain ⟨d6, g6⟩ := hB30.one 6 rfl
        obtain ⟨d7, g7⟩ := hB30.one 7 rfl
        obtain ⟨d8, g8⟩ := hB30.one 8 rfl
        clear hA30 hB30
        go_wp2_with fail
        refine hK.out _ _ _ (fun u hu => hu) (⟨c0, c1, c2, c3, c4, c5, c6, c7, c8, d0, d1, d2, d3, d4, d5, d6, d7, d8⟩) ?_
        clear hK K
        refine mv_step (fun K hK => ?_)
        go_simp
        refine (N2.out _).mono ?_
        rintro e w31 ⟨rfl, hb31⟩
        have hB31' := Lib.hid (hB30'.out.trans (hb31.mono (by have := hB30'.out.size; have := hz.out; first | omega | (show w.heap.size + 2 ≤ w6.heap.size; omega))))
        clear c0 f0 d0 g0 c1 f1 d1 g1 c2 f2 d2 g2 c3 f3 d3 g3 c4 f4 d4 g4 c5 f5 d5 g5 c6 f6 d6 g6 c7 f7 d7 g7 c8 f8 d8 g8
        clear hb31
        have hA31 := HX.out _ hB31'.out
        have hB31 := HY.out _ hB31'.out
        obtain ⟨c0, f0⟩ := hA31.one 0 rfl
        obtain ⟨c1, f1⟩ := hA31.one 1 rfl
        obtain ⟨c2, f2⟩ := hA31.one 2 rfl
        obtain ⟨c3, f3⟩ := hA31.one 3 rfl
        obtain ⟨c4, f4⟩ := hA31.one 4 rfl
        obtain ⟨c5, f5⟩ := hA31.one 5 rfl
        obtain ⟨c6, f6⟩ := hA31.one 6 rfl
        obtain ⟨c7, f7⟩ := hA31.one 7 rfl
        obtain ⟨c8, f8⟩ := hA31.one 8 rfl
        obtain ⟨d0, g0⟩ := hB31.one 0 rfl
        obtain ⟨d1, g1⟩ := hB31.one 1 rfl
        obtain ⟨d2, g2⟩ := hB31.one 2 rfl
        obtain ⟨d3, g3⟩ := hB31.one 3 rfl
        obtain ⟨d4, g4⟩ := hB31.one 4 rfl
        obtain ⟨d5, g5⟩ := hB31.one 5 rfl
        obtain ⟨d6, g6⟩ := hB31.one 6 rfl
        obtain ⟨d7, g7⟩ := hB31.one 7 rfl
        obtain ⟨d8, g8⟩ := hB31.one 8 rfl
        clear hA31 hB31
        go_wp2_with fail
        refine hK.out _ _ _ (fun u hu => hu) (⟨c0, c1, c2, c3, c4, c5, c6, c7, c8, d0, d1, d2, d3, d4, d5, d6, d7, d8⟩) ?_
        clear hK K
        refine mv_step (fun K hK => ?_)
        go_simp
        refine (N3.out _).mono ?_
        rintro e w32 ⟨rfl, hb32⟩
        have hB32' := Lib.hid (hB31'.out.trans (hb32.mono (by have := hB31'.out.size; have := hz.out; first | omega | (show w.heap.size + 2 ≤ w6.heap.size; omega))))
        clear c0 f0 d0 g0 c1 f1 d1 g1 c2 f2 d2 g2 c3 f3 d3 g3 c4 f4 d4 g4 c5 f5 d5 g5 c6 f6 d6 g6 c7 f7 d7 g7 c8 f8 d8 g8
        clear hb32
        have hA32 := HX.out _ hB32'.out
        have hB32 := HY.out _ hB32'.out
        obtain ⟨c0, f0⟩ := hA32.one 0 rfl
        obtain ⟨c1, f1⟩ := hA32.one 1 rfl
        obtain ⟨c2, f2⟩ := hA32.one 2 rfl
        obtain ⟨c3, f3⟩ := hA32.one 3 rfl
        obtain ⟨c4, f4⟩ := hA32.one 4 rfl
        obtain ⟨c5, f5⟩ := hA32.one 5 rfl
        obtain ⟨c6, f6⟩ := hA32.one 6 rfl
        obtain ⟨c7, f7⟩ := hA32.one 7 rfl
        obtain ⟨c8, f8⟩ := hA32.one 8 rfl
        obtain ⟨d0, g0⟩ := hB32.one 0 rfl
        obtain ⟨d1, g1⟩ := hB32.one 1 rfl
        obtain ⟨d2, g2⟩ := hB32.one 2 rfl
        obtain ⟨d3, g3⟩ := hB32.one 3 rfl
        obtain ⟨d4, g4⟩ := hB32.one 4 rfl
        obtain ⟨d5, g5⟩ := hB32.one 5 rfl
        obtain ⟨d6, g6⟩ := hB32.one 6 rfl
        obtain ⟨d7, g7⟩ := hB32.one 7 rfl
        obtain ⟨d8, g8⟩ := hB32.one 8 rfl
        clear hA32 hB32
        go_wp2_with fail
        refine hK.out _ _ _ (fun u hu => hu) (⟨c0, c1, c2, c3, c4, c5, c6, c7, c8, d0, d1, d2, d3, d4, d5, d6, d7, d8⟩) ?_
        clear hK K
        refine mv_step (fun K hK => ?_)
        go_simp
        refine (N4.out _).mono ?_
        rintro e w33 ⟨rfl, hb33⟩
        have hB33' := Lib.hid (hB32'.out.trans (hb33.mono (by have := hB32'.out.size; have := hz.out; first | omega | (show w.heap.size + 2 ≤ w6.heap.size; omega))))
        clear c0 f0 d0 g0 c1 f1 d1 g1 c2 f2 d2 g2 c3 f3 d3 g3 c4 f4 d4 g4 c5 f5 d5 g5 c6 f6 d6 g6 c7 f7 d7 g7 c8 f8 d8 g8
        clear hb33
        have hA33 := HX.out _ hB33'.out
        have hB33 := HY.out _ hB33'.out
        obtain ⟨c0, f0⟩ := hA33.one 0 rfl
        obtain ⟨c1, f1⟩ := hA33.one 1 rfl
        obtain ⟨c2, f2⟩ := hA33.one 2 rfl
        obtain ⟨c3, f3⟩ := hA33.one 3 rfl
        obtain ⟨c4, f4⟩ := hA33.one 4 rfl
        obtain ⟨c5, f5⟩ := hA33.one 5 rfl
        obtain ⟨c6, f6⟩ := hA33.one 6 rfl
        obtain ⟨c7, f7⟩ := hA33.one 7 rfl
        obtain ⟨c8, f8⟩ := hA33.one 8 rfl
        obtain ⟨d0, g0⟩ := hB33.one 0 rfl
        obtain ⟨d1, g1⟩ := hB33.one 1 rfl
        obtain ⟨d2, g2⟩ := hB33.one 2 rfl
        obtain ⟨d3, g3⟩ := hB33.one 3 rfl
        obtain ⟨d4, g4⟩ := hB33.one 4 rfl
        obtain ⟨d5, g5⟩ := hB33.one 5 rfl
        obtain ⟨d6, g6⟩ := hB33.one 6 rfl
        obtain ⟨d7, g7⟩ := hB33.one 7 rfl
        obtain ⟨d8, g8⟩ := hB33.one 8 rfl
        clear hA33 hB33
        go_wp2_with fail
        refine hK.out _ _ _ (fun u hu => hu) (⟨c0, c1, c2, c3, c4, c5, c6, c7, c8, d0, d1, d2, d3, d4, d5, d6, d7, d8⟩) ?_
        clear hK K
        refine mv_step (fun K hK => ?_)
        go_simp
        refine (N5.out _).mono ?_
        rintro e w34 ⟨rfl, hb34⟩
        have hB34' := Lib.hid (hB33'.out.trans (hb34.mono (by have := hB33'.out.size; have := hz.out; first | omega | (show w.heap.size + 2 ≤ w6.heap.size; omega))))
        clear c0 f0 d0 g0 c1 f1 d1 g1 c2 f2 d2 g2 c3 f3 d3 g3 c4 f4 d4 g4 c5 f5 d5 g5 c6 f6 d6 g6 c7 f7 d7 g7 c8 f8 d8 g8
        clear hb34
        have hA34 := HX.out _ hB34'.out
        have hB34 := HY.out _ hB34'.out
        obtain ⟨c0, f0⟩ := hA34.one 0 rfl
        obtain ⟨c1, f1⟩ := hA34.one 1 rfl
        obtain ⟨c2, f2⟩ := hA34.one 2 rfl
        obtain ⟨c3, f3⟩ := hA34.one 3 rfl
        obtain ⟨c4, f4⟩ := hA34.one 4 rfl
        obtain ⟨c5, f5⟩ := hA34.one 5 rfl
        obtain ⟨c6, f6⟩ := hA34.one 6 rfl
        obtain ⟨c7, f7⟩ := hA34.one 7 rfl
        obtain ⟨c8, f8⟩ := hA34.one 8 rfl
        obtain ⟨d0, g0⟩ := hB34.one 0 rfl
        obtain ⟨d1, g1⟩ := hB34.one 1 rfl
        obtain ⟨d2, g2⟩ := hB34.one 2 rfl
        obtain ⟨d3, g3⟩ := hB34.one 3 rfl
        obtain ⟨d4, g4⟩ := hB34.one 4 rfl
        obtain ⟨d5, g5⟩ := hB34.one 5 rfl
        obtain ⟨d6, g6⟩ := hB34.one 6 rfl
        obtain ⟨d7, g7⟩ := hB34.one 7 rfl
        obtain ⟨d8, g8⟩ := hB34.one 8 rfl
        clear hA34 hB34
        go_wp2_with fail
        refine hK.out _ _ _ (fun u hu => hu) (⟨c0, c1, c2, c3, c4, c5, c6, c7, c8, d0, d1, d2, d3, d4, d5, d6, d7, d8⟩) ?_
        clear hK K
        iterate 2
          first
            | (refine mv_free ?_ (Or.inl ⟨by rfl, ?_⟩) (⟨c0, c1, c2, c3, c4, c5, c6, c7, c8, d0, d1, d2, d3, d4, d5, d6, d7, d8⟩) ?_
               rotate_left 1
               · intro u
                 go_simp
                 try simp only [d1]
                 try simp only [d2]
                 try simp only [d3]
                 try with_reducible rfl
               simp only [Act.put, List.setIfInBounds_toArray, List.set_cons_zero, List.set_cons_succ])
            | (refine mv_free _ (Or.inr ⟨by rfl, rfl⟩) (⟨c0, c1, c2, c3, c4, c5, c6, c7, c8, d0, d1, d2, d3, d4, d5, d6, d7, d8⟩) ?_
               simp only [Act.put, List.setIfInBounds_toArray, List.set_cons_zero, List.set_cons_succ])
        iterate 2
          first
            | (refine mv_take ?_ (Or.inl ⟨by rfl, ?_⟩) (⟨c0, c1, c2, c3, c4, c5, c6, c7, c8, d0, d1, d2, d3, d4, d5, d6, d7, d8⟩) ?_
               rotate_left 1
               · intro u hu
                 (try dsimp only at hu)
                 go_simp
                 try with_reducible rfl
               simp only [Act.put, List.setIfInBounds_toArray, List.set_cons_zero, List.set_cons_succ])
            | (refine mv_take _ (Or.inr ⟨by rfl, rfl⟩) (⟨c0, c1, c2, c3, c4, c5, c6, c7, c8, d0, d1, d2, d3, d4, d5, d6, d7, d8⟩) ?_
               simp only [Act.put, List.setIfInBounds_toArray, List.set_cons_zero, List.set_cons_succ])
        refine mv_step (fun K hK => ?_)
        go_simp
        refine (N4.out _).mono ?_
        rintro e w35 ⟨rfl, hb35⟩
        have hB35' := Lib.hid (hB34'.out.trans (hb35.mono (by have := hB34'.out.size; have := hz.out; first | omega | (show w.heap.size + 2 ≤ w6.heap.size; omega))))
        clear c0 f0 d0 g0 c1 f1 d1 g1 c2 f2 d2 g2 c3 f3 d3 g3 c4 f4 d4 g4 c5 f5 d5 g5 c6 f6 d6 g6 c7 f7 d7 g7 c8 f8 d8 g8
        clear hb35
        have hA35 := HX.out _ hB35'.out
        have hB35 := HY.out _ hB35'.out
        obtain ⟨c0, f0⟩ := hA35.one 0 rfl
        obtain ⟨c1, f1⟩ := hA35.one 1 rfl
        obtain ⟨c2, f2⟩ := hA35.one 2 rfl
        obtain ⟨c3, f3⟩ := hA35.one 3 rfl
        obtain ⟨c4, f4⟩ := hA35.one 4 rfl
        obtain ⟨c5, f5⟩ := hA35.one 5 rfl
        obtain ⟨c6, f6⟩ := hA35.one 6 rfl
        obtain ⟨c7, f7⟩ := hA35.one 7 rfl
        obtain ⟨c8, f8⟩ := hA35.one 8 rfl
        obtain ⟨d0, g0⟩ := hB35.one 0 rfl
        obtain ⟨d1, g1⟩ := hB35.one 1 rfl
        obtain ⟨d2, g2⟩ := hB35.one 2 rfl
        obtain ⟨d3, g3⟩ := hB35.one 3 rfl
        obtain ⟨d4, g4⟩ := hB35.one 4 rfl
        obtain ⟨d5, g5⟩ := hB35.one 5 rfl
        obtain ⟨d6, g6⟩ := hB35.one 6 rfl
        obtain ⟨d7, g7⟩ := hB35.one 7 rfl
        obtain ⟨d8, g8⟩ := hB35.one 8 rfl
        clear hA35 hB35
        go_wp2_with fail
        refine hK.out _ _ _ (fun u hu => hu) (⟨c0, c1, c2, c3, c4, c5, c6, c7, c8, d0, d1, d2, d3, d4, d5, d6, d7, d8⟩) ?_
        clear hK K
        refine mv_step (fun K hK => ?_)
        go_simp
        refine (N7.out _).mono ?_
        rintro e w36 ⟨rfl, hb36⟩
        have hB36' := Lib.hid (hB35'.out.trans (hb36.mono (by have := hB35'.out.size; have := hz.out; first | omega | (show w.heap.size + 2 ≤ w6.heap.size; omega))))
        clear c0 f0 d0 g0 c1 f1 d1 g1 c2 f2 d2 g2 c3 f3 d3 g3 c4 f4 d4 g4 c5 f5 d5 g5 c6 f6 d6 g6 c7 f7 d7 g7 c8 f8 d8 g8
        clear hb36
        have hA36 := HX.out _ hB36'.out
        have hB36 := HY.out _ hB36'.out
        obtain ⟨c0, f0⟩ := hA36.one 0 rfl
        obtain ⟨c1, f1⟩ := hA36.one 1 rfl
        obtain ⟨c2, f2⟩ := hA36.one 2 rfl
        obtain ⟨c3, f3⟩ := hA36.one 3 rfl
        obtain ⟨c4, f4⟩ := hA36.one 4 rfl
        obtain ⟨c5, f5⟩ := hA36.one 5 rfl
        obtain ⟨c6, f6⟩ := hA36.one 6 rfl
        obtain ⟨c7, f7⟩ := hA36.one 7 rfl
        obtain ⟨c8, f8⟩ := hA36.one 8 rfl
        obtain ⟨d0, g0⟩ := hB36.one 0 rfl
        obtain ⟨d1, g1⟩ := hB36.one 1 rfl
        obtain ⟨d2, g2⟩ := hB36.one 2 rfl
        obtain ⟨d3, g3⟩ := hB36.one 3 rfl
        obtain ⟨d4, g4⟩ := hB36.one 4 rfl
        obtain ⟨d5, g5⟩ := hB36.one 5 rfl
        obtain ⟨d6, g6⟩ := hB36.one 6 rfl
        obtain ⟨d7, g7⟩ := hB36.one 7 rfl
        obtain ⟨d8, g8⟩ := hB36.one 8 rfl
        clear hA36 hB36
        go_wp2_with fail
        refine hK.out _ _ _ (fun u hu => hu) (⟨c0, c1, c2, c3, c4, c5, c6, c7, c8, d0, d1, d2, d3, d4, d5, d6, d7, d8⟩) ?_
        clear hK K
        iterate 2
          first
            | (refine mv_free ?_ (Or.inl ⟨by rfl, ?_⟩) (⟨c0, c1, c2, c3, c4, c5, c6, c7, c8, d0, d1, d2, d3, d4, d5, d6, d7, d8⟩) ?_
               rotate_left 1
               · intro u
                 go_simp
                 try simp only [d1]
                 try simp only [d2]
                 try simp only [d3]
                 try with_reducible rfl
               simp only [Act.put, List.setIfInBounds_toArray, List.set_cons_zero, List.set_cons_succ])
            | (refine mv_free _ (Or.inr ⟨by rfl, rfl⟩) (⟨c0, c1, c2, c3, c4, c5, c6, c7, c8, d0, d1, d2, d3, d4, d5, d6, d7, d8⟩) ?_
               simp only [Act.put, List.setIfInBounds_toArray, List.set_cons_zero, List.set_cons_succ])
        refine mv_done ?_
        clear c0 f0 d0 g0 c1 f1 d1 g1 c2 f2 d2 g2 c3 f3 d3 g3 c4 f4 d4 g4 c5 f5 d5 g5 c6 f6 d6 g6 c7 f7 d7 g7 c8 f8 d8 g8
        clear EQ1 EQ2
        have hX40 := HX.out _ hB36'.out
        obtain ⟨c0, f0⟩ := hX40.one 0 rfl
        obtain ⟨c1, f1⟩ := hX40.one 1 rfl
        obtain ⟨c2, f2⟩ := hX40.one 2 rfl
        obtain ⟨c3, f3⟩ := hX40.one 3 rfl
        obtain ⟨c4, f4⟩ := hX40.one 4 rfl
        obtain ⟨c5, f5⟩ := hX40.one 5 rfl
        obtain ⟨c6, f6⟩ := hX40.one 6 rfl
        obtain ⟨c7, f7⟩ := hX40.one 7 rfl
        obtain ⟨c8, f8⟩ := hX40.one 8 rfl
        clear hX40
        go_wp2_with fail
        refine (NM.out _).mono ?_
        rintro e w40 ⟨rfl, hb40⟩
        have hB40 := hB36'.out.trans (hb40.mono (by have := hB36'.out.size; have := hz.out; omega))
        clear hb40 c0 f0 c1 f1 c2 f2 c3 f3 c4 f4 c5 f5 c6 f6 c7 f7 c8 f8
        go_upto_region 13 with (fail)
        obtain ⟨w41, e41, hm41, hG41⟩ := mcell_box w40 (mir X)
        rw [← e41]
        replace e41 := Lib.hid e41
        obtain ⟨qm, eqm⟩ : ∃ qm, qm = w40.heap.size := ⟨_, rfl⟩
        rw [← eqm] at hG41 ⊢
        have hB41 := hB40.trans (hm41.mono (by have := hB40.size; have := hz.out; omega))
        have hX41 := HX.out _ hB41
        obtain ⟨c0, f0⟩ := hX41.one 0 rfl
        obtain ⟨c1, f1⟩ := hX41.one 1 rfl
        obtain ⟨c2, f2⟩ := hX41.one 2 rfl
        obtain ⟨c3, f3⟩ := hX41.one 3 rfl
        obtain ⟨c4, f4⟩ := hX41.one 4 rfl
        obtain ⟨c5, f5⟩ := hX41.one 5 rfl
        obtain ⟨c6, f6⟩ := hX41.one 6 rfl
        obtain ⟨c7, f7⟩ := hX41.one 7 rfl
        obtain ⟨c8, f8⟩ := hX41.one 8 rfl
        clear hX41 hm41 hB40 eqm
        go_upto_region 14 with (fail)
        obtain ⟨w42, e42, hm42, hC42⟩ := mcell_box w41 X
        rw [← e42]
        replace e42 := Lib.hid e42
        obtain ⟨qc, eqc⟩ : ∃ qc, qc = w41.heap.size := ⟨_, rfl⟩
        rw [← eqc] at hC42 ⊢
        have hmc : qm < qc := by have := hG41.lt; omega
        have hB42 := hB41.trans (hm42.mono (by have := hB41.size; have := hz.out; omega))
        have hG42 := hG41.bel hm42
        have hqc : w.heap.size + 2 ≤ qc := by rw [eqc]; have := hB41.size; have := hz.out; omega
        clear hm42 hB41 hG41 eqc c0 f0 c1 f1 c2 f2 c3 f3 c4 f4 c5 f5 c6 f6 c7 f7 c8 f8
        have hT : Held qc [.int .i64 (twr X 0), .int .i64 (twr X 1), .int .i64 (twr X 2), .int .i64 (twr X 3), .int .i64 (twr X 4), .int .i64 (twr X 5), .int .i64 (twr X 6), .int .i64 (twr X 7), .int .i64 (twr X 8)] (((w42.setCell ⟨qc, 6, none⟩ (.int .i64 (X 3))).setCell ⟨qc, 7, none⟩ (.int .i64 (X 4))).setCell ⟨qc, 8, none⟩ (.int .i64 (X 5))) := ((hC42.set 6 (.int .i64 (X 3)) (by simp)).set 7 (.int .i64 (X 4)) (by simp)).set 8 (.int .i64 (X 5)) (by simp)
        have hG43 := hG42.only ((((Only.refl qc w42).setCell (p := ⟨qc, 6, none⟩) (.int .i64 (X 3))).setCell (p := ⟨qc, 7, none⟩) (.int .i64 (X 4))).setCell (p := ⟨qc, 8, none⟩) (.int .i64 (X 5))) (show qm ≠ qc by omega)
        have hB43 := Lib.hid (((hB42.setCell (p := ⟨qc, 6, none⟩) hqc (.int .i64 (X 3))).setCell (p := ⟨qc, 7, none⟩) hqc (.int .i64 (X 4))).setCell (p := ⟨qc, 8, none⟩) hqc (.int .i64 (X 5)))
        obtain ⟨c0, f0⟩ := hC42.one 0 rfl
        obtain ⟨c1, f1⟩ := hC42.one 1 rfl
        obtain ⟨c2, f2⟩ := hC42.one 2 rfl
        obtain ⟨c3, f3⟩ := hC42.one 3 rfl
        obtain ⟨c4, f4⟩ := hC42.one 4 rfl
        obtain ⟨c5, f5⟩ := hC42.one 5 rfl
        obtain ⟨c6, f6⟩ := hC42.one 6 rfl
        obtain ⟨c7, f7⟩ := hC42.one 7 rfl
        obtain ⟨c8, f8⟩ := hC42.one 8 rfl
        clear hC42 hG42 hB42 hmc hqc
        go_upto_region 15 with (fail)
        generalize ((w42.setCell ⟨qc, 6, none⟩ (.int .i64 (X 3))).setCell ⟨qc, 7, none⟩ (.int .i64 (X 4))).setCell ⟨qc, 8, none⟩ (.int .i64 (X 5)) = w43 at *
        clear c0 f0 c1 f1 c2 f2 c3 f3 c4 f4 c5 f5 c6 f6 c7 f7 c8 f8
        have EQ3 := fun u => meq (mir X 0) (mir X 1) (mir X 2) (mir X 3) (mir X 4) (mir X 5) (mir X 6) (mir X 7) (mir X 8) u
        generalize mir X = G at *
        generalize twr X = T at *
        have hGG := Lib.hid hG43
        have hTT := Lib.hid hT
        have hA44 := hGG.out
        have hB44 := hTT.out
        obtain ⟨c0, f0⟩ := hA44.one 0 rfl
        obtain ⟨c1, f1⟩ := hA44.one 1 rfl
        obtain ⟨c2, f2⟩ := hA44.one 2 rfl
        obtain ⟨c3, f3⟩ := hA44.one 3 rfl
        obtain ⟨c4, f4⟩ := hA44.one 4 rfl
        obtain ⟨c5, f5⟩ := hA44.one 5 rfl
        obtain ⟨c6, f6⟩ := hA44.one 6 rfl
        obtain ⟨c7, f7⟩ := hA44.one 7 rfl
        obtain ⟨c8, f8⟩ := hA44.one 8 rfl
        obtain ⟨d0, g0⟩ := hB44.one 0 rfl
        obtain ⟨d1, g1⟩ := hB44.one 1 rfl
        obtain ⟨d2, g2⟩ := hB44.one 2 rfl
        obtain ⟨d3, g3⟩ := hB44.one 3 rfl
        obtain ⟨d4, g4⟩ := hB44.one 4 rfl
        obtain ⟨d5, g5⟩ := hB44.one 5 rfl
        obtain ⟨d6, g6⟩ := hB44.one 6 rfl
        obtain ⟨d7, g7⟩ := hB44.one 7 rfl
        obtain ⟨d8, g8⟩ := hB44.one 8 rfl
        clear hA44 hB44
        clear hG43 hT
        refine region_moves (fun u => u.cell? ⟨qm, 0, none⟩ = some (.int .i64 (G 0)) ∧ u.cell? ⟨qm, 1, none⟩ = some (.int .i64 (G 1)) ∧ u.cell? ⟨qm, 2, none⟩ = some (.int .i64 (G 2)) ∧ u.cell? ⟨qm, 3, none⟩ = some (.int .i64 (G 3)) ∧ u.cell? ⟨qm, 4, none⟩ = some (.int .i64 (G 4)) ∧ u.cell? ⟨qm, 5, none⟩ = some (.int .i64 (G 5)) ∧ u.cell? ⟨qm, 6, none⟩ = some (.int .i64 (G 6)) ∧ u.cell? ⟨qm, 7, none⟩ = some (.int .i64 (G 7)) ∧ u.cell? ⟨qm, 8, none⟩ = some (.int .i64 (G 8)) ∧ u.cell? ⟨qc, 0, none⟩ = some (.int .i64 (T 0)) ∧ u.cell? ⟨qc, 1, none⟩ = some (.int .i64 (T 1)) ∧ u.cell? ⟨qc, 2, none⟩ = some (.int .i64 (T 2)) ∧ u.cell? ⟨qc, 3, none⟩ = some (.int .i64 (T 3)) ∧ u.cell? ⟨qc, 4, none⟩ = some (.int .i64 (T 4)) ∧ u.cell? ⟨qc, 5, none⟩ = some (.int .i64 (T 5)) ∧ u.cell? ⟨qc, 6, none⟩ = some (.int .i64 (T 6)) ∧ u.cell? ⟨qc, 7, none⟩ = some (.int .i64 (T 7)) ∧ u.cell? ⟨qc, 8, none⟩ = some (.int .i64 (T 8))) [] [(.take, 0), (.step, 1), (.free, 2), (.take, 3), (.take, 5), (.step, 4), (.free, 6), (.free, 7), (.free, 8), (.take, 9), (.step, 10), (.free, 11), (.free, 12), (.free, 13), (.step, 14), (.free, 15), (.free, 16)] _ (by kernel_rfl) (by kernel_rfl) (by kernel_rfl) (by kernel_rfl) (by decide) rfl (fun _ _ _ _ _ h => h) ?_
        simp only [List.filterMap_cons, List.filterMap_nil, List.getElem?_toArray, List.getElem?_cons_zero, List.getElem?_cons_succ, Option.map_some]
        iterate 1
          first
            | (refine mv_take ?_ (Or.inl ⟨by rfl, ?_⟩) (⟨c0, c1, c2, c3, c4, c5, c6, c7, c8, d0, d1, d2, d3, d4, d5, d6, d7, d8⟩) ?_
               rotate_left 1
               · intro u hu
                 (try dsimp only at hu)
                 go_simp
                 try with_reducible rfl
               simp only [Act.put, List.setIfInBounds_toArray, List.set_cons_zero, List.set_cons_succ])
            | (refine mv_take _ (Or.inr ⟨by rfl, rfl⟩) (⟨c0, c1, c2, c3, c4, c5, c6, c7, c8, d0, d1, d2, d3, d4, d5, d6, d7, d8⟩) ?_
               simp only [Act.put, List.setIfInBounds_toArray, List.set_cons_zero, List.set_cons_succ])
        refine mv_step (fun K hK => ?_)
        go_simp
        refine (NS.out _).mono ?_
        rintro e w50 ⟨rfl, hb50⟩
        have hG50' := Lib.hid (hGG.out.drew.bel hb50)
        have hT50' := Lib.hid (hTT.out.drew.bel hb50)
        have hB50' := Lib.hid (hB43.out.drew.trans (hb50.mono (by have := hB43.out.size; have := hz.out; first | omega | (show w.heap.size + 2 ≤ w43.heap.size; omega))))
        clear c0 f0 d0 g0 c1 f1 d1 g1 c2 f2 d2 g2 c3 f3 d3 g3 c4 f4 d4 g4 c5 f5 d5 g5 c6 f6 d6 g6 c7 f7 d7 g7 c8 f8 d8 g8
        clear hb50
        have hA50 := hG50'.out
        have hB50 := hT50'.out
        obtain ⟨c0, f0⟩ := hA50.one 0 rfl
        obtain ⟨c1, f1⟩ := hA50.one 1 rfl
        obtain ⟨c2, f2⟩ := hA50.one 2 rfl
        obtain ⟨c3, f3⟩ := hA50.one 3 rfl
        obtain ⟨c4, f4⟩ := hA50.one 4 rfl
        obtain ⟨c5, f5⟩ := hA50.one 5 rfl
        obtain ⟨c6, f6⟩ := hA50.one 6 rfl
        obtain ⟨c7, f7⟩ := hA50.one 7 rfl
        obtain ⟨c8, f8⟩ := hA50.one 8 rfl
        obtain ⟨d0, g0⟩ := hB50.one 0 rfl
        obtain ⟨d1, g1⟩ := hB50.one 1 rfl
        obtain ⟨d2, g2⟩ := hB50.one 2 rfl
        obtain ⟨d3, g3⟩ := hB50.one 3 rfl
        obtain ⟨d4, g4⟩ := hB50.one 4 rfl
        obtain ⟨d5, g5⟩ := hB50.one 5 rfl
        obtain ⟨d6, g6⟩ := hB50.one 6 rfl
        obtain ⟨d7, g7⟩ := hB50.one 7 rfl
        obtain ⟨d8, g8⟩ := hB50.one 8 rfl
        clear hA50 hB50
        go_wp2_with fail
        refine hK.out _ _ _ (fun u hu => hu) (⟨c0, c1, c2, c3, c4, c5, c6, c7, c8, d0, d1, d2, d3, d4, d5, d6, d7, d8⟩) ?_
        clear hK K
        iterate 1
          first
            | (refine mv_free ?_ (Or.inl ⟨by rfl, ?_⟩) (⟨c0, c1, c2, c3, c4, c5, c6, c7, c8, d0, d1, d2, d3, d4, d5, d6, d7, d8⟩) ?_
               rotate_left 1
               · intro u
                 go_simp
                 try simp only [d1]
                 try simp only [d2]
                 try simp only [d3]
                 try with_reducible rfl
               simp only [Act.put, List.setIfInBounds_toArray, List.set_cons_zero, List.set_cons_succ])
            | (refine mv_free _ (Or.inr ⟨by rfl, rfl⟩) (⟨c0, c1, c2, c3, c4, c5, c6, c7, c8, d0, d1, d2, d3, d4, d5, d6, d7, d8⟩) ?_
               simp only [Act.put, List.setIfInBounds_toArray, List.set_cons_zero, List.set_cons_succ])
        iterate 2
          first
            | (refine mv_take ?_ (Or.inl ⟨by rfl, ?_⟩) (⟨c0, c1, c2, c3, c4, c5, c6, c7, c8, d0, d1, d2, d3, d4, d5, d6, d7, d8⟩) ?_
               rotate_left 1
               · intro u hu
                 (try dsimp only at hu)
                 go_simp
                 try with_reducible rfl
               simp only [Act.put, List.setIfInBounds_toArray, List.set_cons_zero, List.set_cons_succ])
            | (refine mv_take _ (Or.inr ⟨by rfl, rfl⟩) (⟨c0, c1, c2, c3, c4, c5, c6, c7, c8, d0, d1, d2, d3, d4, d5, d6, d7, d8⟩) ?_
               simp only [Act.put, List.setIfInBounds_toArray, List.set_cons_zero, List.set_cons_succ])
        refine mv_step (fun K hK => ?_)
        go_simp
        refine (NR.out _).mono ?_
        rintro e w51 ⟨rfl, hb51⟩
        have hG51' := Lib.hid (hG50'.out.bel hb51)
        have hT51' := Lib.hid (hT50'.out.bel hb51)
        have hB51' := Lib.hid (hB50'.out.trans (hb51.mono (by have := hB50'.out.size; have := hz.out; first | omega | (show w.heap.size + 2 ≤ w43.heap.size; omega))))
        clear c0 f0 d0 g0 c1 f1 d1 g1 c2 f2 d2 g2 c3 f3 d3 g3 c4 f4 d4 g4 c5 f5 d5 g5 c6 f6 d6 g6 c7 f7 d7 g7 c8 f8 d8 g8
        clear hb51
        have hA51 := hG51'.out
        have hB51 := hT51'.out
        obtain ⟨c0, f0⟩ := hA51.one 0 rfl
        obtain ⟨c1, f1⟩ := hA51.one 1 rfl
        obtain ⟨c2, f2⟩ := hA51.one 2 rfl
        obtain ⟨c3, f3⟩ := hA51.one 3 rfl
        obtain ⟨c4, f4⟩ := hA51.one 4 rfl
        obtain ⟨c5, f5⟩ := hA51.one 5 rfl
        obtain ⟨c6, f6⟩ := hA51.one 6 rfl
        obtain ⟨c7, f7⟩ := hA51.one 7 rfl
        obtain ⟨c8, f8⟩ := hA51.one 8 rfl
        obtain ⟨d0, g0⟩ := hB51.one 0 rfl
        obtain ⟨d1, g1⟩ := hB51.one 1 rfl
        obtain ⟨d2, g2⟩ := hB51.one 2 rfl
        obtain ⟨d3, g3⟩ := hB51.one 3 rfl
        obtain ⟨d4, g4⟩ := hB51.one 4 rfl
        obtain ⟨d5, g5⟩ := hB51.one 5 rfl
        obtain ⟨d6, g6⟩ := hB51.one 6 rfl
        obtain ⟨d7, g7⟩ := hB51.one 7 rfl
        obtain ⟨d8, g8⟩ := hB51.one 8 rfl
        clear hA51 hB51
        go_wp2_with fail
        refine hK.out _ _ _ (fun u hu => hu) (⟨c0, c1, c2, c3, c4, c5, c6, c7, c8, d0, d1, d2, d3, d4, d5, d6, d7, d8⟩) ?_
        clear hK K
        iterate 3
          first
            | (refine mv_free ?_ (Or.inl ⟨by rfl, ?_⟩) (⟨c0, c1, c2, c3, c4, c5, c6, c7, c8, d0, d1, d2, d3, d4, d5, d6, d7, d8⟩) ?_
               rotate_left 1
               · intro u
                 go_simp
                 try simp only [d1]
                 try simp only [d2]
                 try simp only [d3]
                 try with_reducible rfl
               simp only [Act.put, List.setIfInBounds_toArray, List.set_cons_zero, List.set_cons_succ])
            | (refine mv_free _ (Or.inr ⟨by rfl, rfl⟩) (⟨c0, c1, c2, c3, c4, c5, c6, c7, c8, d0, d1, d2, d3, d4, d5, d6, d7, d8⟩) ?_
               simp only [Act.put, List.setIfInBounds_toArray, List.set_cons_zero, List.set_cons_succ])
        iterate 1
          first
            | (refine mv_take ?_ (Or.inl ⟨by rfl, ?_⟩) (⟨c0, c1, c2, c3, c4, c5, c6, c7, c8, d0, d1, d2, d3, d4, d5, d6, d7, d8⟩) ?_
               rotate_left 1
               · intro u hu
                 (try dsimp only at hu)
                 go_simp
                 try with_reducible rfl
               simp only [Act.put, List.setIfInBounds_toArray, List.set_cons_zero, List.set_cons_succ])
            | (refine mv_take _ (Or.inr ⟨by rfl, rfl⟩) (⟨c0, c1, c2, c3, c4, c5, c6, c7, c8, d0, d1, d2, d3, d4, d5, d6, d7, d8⟩) ?_
               simp only [Act.put, List.setIfInBounds_toArray, List.set_cons_zero, List.set_cons_succ])
        refine mv_step (fun K hK => ?_)
        go_simp
        refine (ND.out _).mono ?_
        rintro e w52 ⟨rfl, hb52⟩
        have hG52' := Lib.hid (hG51'.out.bel hb52)
        have hT52' := Lib.hid (hT51'.out.bel hb52)
        have hB52' := Lib.hid (hB51'.out.trans (hb52.mono (by have := hB51'.out.size; have := hz.out; first | omega | (show w.heap.size + 2 ≤ w43.heap.size; omega))))
        clear c0 f0 d0 g0 c1 f1 d1 g1 c2 f2 d2 g2 c3 f3 d3 g3 c4 f4 d4 g4 c5 f5 d5 g5 c6 f6 d6 g6 c7 f7 d7 g7 c8 f8 d8 g8
        clear hb52
        have hA52 := hG52'.out
        have hB52 := hT52'.out
        obtain ⟨c0, f0⟩ := hA52.one 0 rfl
        obtain ⟨c1, f1⟩ := hA52.one 1 rfl
        obtain ⟨c2, f2⟩ := hA52.one 2 rfl
        obtain ⟨c3, f3⟩ := hA52.one 3 rfl
        obtain ⟨c4, f4⟩ := hA52.one 4 rfl
        obtain ⟨c5, f5⟩ := hA52.one 5 rfl
        obtain ⟨c6, f6⟩ := hA52.one 6 rfl
        obtain ⟨c7, f7⟩ := hA52.one 7 rfl
        obtain ⟨c8, f8⟩ := hA52.one 8 rfl
        obtain ⟨d0, g0⟩ := hB52.one 0 rfl
        obtain ⟨d1, g1⟩ := hB52.one 1 rfl
        obtain ⟨d2, g2⟩ := hB52.one 2 rfl
        obtain ⟨d3, g3⟩ := hB52.one 3 rfl
        obtain ⟨d4, g4⟩ := hB52.one 4 rfl
        obtain ⟨d5, g5⟩ := hB52.one 5 rfl
        obtain ⟨d6, g6⟩ := hB52.one 6 rfl
        obtain ⟨d7, g7⟩ := hB52.one 7 rfl
        obtain ⟨d8, g8⟩ := hB52.one 8 rfl
        clear hA52 hB52
        go_wp2_with fail
        refine hK.out _ _ _ (fun u hu => hu) (⟨c0, c1, c2, c3, c4, c5, c6, c7, c8, d0, d1, d2, d3, d4, d5, d6, d7, d8⟩) ?_
        clear hK K
        iterate 3
          first
            | (refine mv_free ?_ (Or.inl ⟨by rfl, ?_⟩) (⟨c0, c1, c2, c3, c4, c5, c6, c7, c8, d0, d1, d2, d3, d4, d5, d6, d7, d8⟩) ?_
               rotate_left 1
               · intro u
                 go_simp
                 try simp only [d1]
                 try simp only [d2]
                 try simp only [d3]
                 try with_reducible rfl
               simp only [Act.put, List.setIfInBounds_toArray, List.set_cons_zero, List.set_cons_succ])
            | (refine mv_free _ (Or.inr ⟨by rfl, rfl⟩) (⟨c0, c1, c2, c3, c4, c5, c6, c7, c8, d0, d1, d2, d3, d4, d5, d6, d7, d8⟩) ?_
               simp only [Act.put, List.setIfInBounds_toArray, List.set_cons_zero, List.set_cons_succ])
        refine mv_step (fun K hK => ?_)
        go_simp
        refine (LV.out _).mono ?_
        rintro e w53 ⟨rfl, hb53⟩
        have hG53' := Lib.hid (hG52'.out.bel hb53)
        have hT53' := Lib.hid (hT52'.out.bel hb53)
        have hB53' := Lib.hid (hB52'.out.trans (hb53.mono (by have := hB52'.out.size; have := hz.out; first | omega | (show w.heap.size + 2 ≤ w43.heap.size; omega))))
        clear c0 f0 d0 g0 c1 f1 d1 g1 c2 f2 d2 g2 c3 f3 d3 g3 c4 f4 d4 g4 c5 f5 d5 g5 c6 f6 d6 g6 c7 f7 d7 g7 c8 f8 d8 g8
        clear hb53
        have hA53 := hG53'.out
        have hB53 := hT53'.out
        obtain ⟨c0, f0⟩ := hA53.one 0 rfl
        obtain ⟨c1, f1⟩ := hA53.one 1 rfl
        obtain ⟨c2, f2⟩ := hA53.one 2 rfl
        obtain ⟨c3, f3⟩ := hA53.one 3 rfl
        obtain ⟨c4, f4⟩ := hA53.one 4 rfl
        obtain ⟨c5, f5⟩ := hA53.one 5 rfl
        obtain ⟨c6, f6⟩ := hA53.one 6 rfl
        obtain ⟨c7, f7⟩ := hA53.one 7 rfl
        obtain ⟨c8, f8⟩ := hA53.one 8 rfl
        obtain ⟨d0, g0⟩ := hB53.one 0 rfl
        obtain ⟨d1, g1⟩ := hB53.one 1 rfl
        obtain ⟨d2, g2⟩ := hB53.one 2 rfl
        obtain ⟨d3, g3⟩ := hB53.one 3 rfl
        obtain ⟨d4, g4⟩ := hB53.one 4 rfl
        obtain ⟨d5, g5⟩ := hB53.one 5 rfl
        obtain ⟨d6, g6⟩ := hB53.one 6 rfl
        obtain ⟨d7, g7⟩ := hB53.one 7 rfl
        obtain ⟨d8, g8⟩ := hB53.one 8 rfl
        clear hA53 hB53
        go_wp2_with fail
        refine hK.out _ _ _ (fun u hu => hu) (⟨c0, c1, c2, c3, c4, c5, c6, c7, c8, d0, d1, d2, d3, d4, d5, d6, d7, d8⟩) ?_
        clear hK K
        iterate 2
          first
            | (refine mv_free ?_ (Or.inl ⟨by rfl, ?_⟩) (⟨c0, c1, c2, c3, c4, c5, c6, c7, c8, d0, d1, d2, d3, d4, d5, d6, d7, d8⟩) ?_
               rotate_left 1
               · intro u
                 go_simp
                 try simp only [d1]
                 try simp only [d2]
                 try simp only [d3]
                 try with_reducible rfl
               simp only [Act.put, List.setIfInBounds_toArray, List.set_cons_zero, List.set_cons_succ])
            | (refine mv_free _ (Or.inr ⟨by rfl, rfl⟩) (⟨c0, c1, c2, c3, c4, c5, c6, c7, c8, d0, d1, d2, d3, d4, d5, d6, d7, d8⟩) ?_
               simp only [Act.put, List.setIfInBounds_toArray, List.set_cons_zero, List.set_cons_succ])
        refine mv_done ?_
        go_wp2
        go_ret
        exact ⟨rfl, hb0.out.trans (hB53'.out.mono (by omega))⟩
end Go.Proofs.Ytbbmkmkalghaeaa
