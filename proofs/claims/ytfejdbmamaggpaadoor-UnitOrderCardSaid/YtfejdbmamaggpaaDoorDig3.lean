/- The document's rows of digits: twice, one more, less, compared, a bit; walked. -/
import Derived.Test.YtfejdbmamaggpaaDoorDig2
import Derived.Test.YtfejdbmamaggpaaDoorReg
namespace Go.Proofs.YtfejdbmamaggpaaDoor
open Go.ChangeShapes Go.WideShapes Go.ChangeAt Go.RowKit
set_option linter.unusedVariables false
set_option linter.unusedSimpArgs false

set_option maxHeartbeats 1000000 in
theorem rtwice_any (A : Int) (w : World) (h0 : 0 ≤ A) (h1 : 2 * A < pw 12) :
    Calls Tryd.prog 118 #[rwv A] w fun e w' => e = .returned (rwv (2 * A)) ∧ Below w.heap.size w w' := by
  have HA := Lib.hid h1
  clear h1
  go_enter Tryd.func118, Tryd.ntmps118
  go_wp2
  go_loopw [4, 5] (fun a i v => ∃ (k : Nat) (f : Nat → Int) (c : Int), k ≤ 12 ∧ i = .int .i64 k ∧ a = .int .u64 c ∧ 0 ≤ c ∧ c ≤ 1 ∧ Rw w.heap.size (dg A) v ∧ Rw (w.heap.size + 1) (fun _ => 0) v ∧ Rw (w.heap.size + 2) f v ∧ Below w.heap.size w v ∧ Hid (Twc A f k c)) (fun _ i _ => 12 - (intOf i).toNat)
  case atStart => exact ⟨0, fun _ => 0, 0, by omega, rfl, rfl, by omega, by omega, ((Rw.new w (dg A) 160).alloc _).alloc _, (Rw.new' (fun _ => 0) 160 (by simp)).alloc _, Rw.new' (fun _ => 0) 160 (by simp), (by repeat (first | exact Below.refl _ _ | assumption | apply Below.drew | apply below_drewN | (refine Below.alloc ?_ (by first | exact Nat.le_refl _ | omega | (simp <;> omega)) _) | (refine Below.setCell ?_ (by first | exact Nat.le_refl _ | omega | (simp <;> omega)) _))), Lib.hid (Twc.start A)⟩
  case round =>
    obtain ⟨k, f, c, hk, rfl, rfl, hc0, hc1, hA, hZ, hR, hb, hU⟩ := hrel
    by_cases hlt : k < 12
    · have hd := dg_bd A k
      have st := Lib.hid (hU.out.step)
      have ha := hA.c k hlt
      have hf := hR.f k hlt
      have hc := hR.c k hlt
      go_wp2
      go_roundw
      case rel => exact ⟨k + 1, upd f k ((2 * dg A k + c) % 65536), (2 * dg A k + c) / 65536, by omega, by go_num, rfl, by omega, by omega, hA.other (by omega) _ _, hZ.other (by omega) _ _, hR.set k _ hlt, hb.setCell (by simp; try omega) _, st⟩
      case measure => simp [intOf]; omega
    · obtain rfl : k = 12 := by omega
      have hR := hR.congr (hU.out.fin h0 HA.out hc0)
      have hS12 := hR
      obtain ⟨c0, c1, c2, c3, c4, c5, c6, c7, c8, c9, c10, c11⟩ := hS12.all
      obtain ⟨z0, z1, z2, z3, z4, z5, z6, z7, z8, z9, z10, z11⟩ := (hZ).all
      obtain ⟨y0, y1, y2, y3, y4, y5, y6, y7, y8, y9, y10, y11⟩ := (hZ).allf
      go_wp2
      change bodyPost _ _ _ _ _ (rput (w.heap.size + 1) (dg (2 * A)) _)
      have hW := (hZ).put (dg (2 * A))
      have hB := rput_below (hb) (by omega : w.heap.size ≤ w.heap.size + 1) (dg (2 * A))
      clear c0 c1 c2 c3 c4 c5 c6 c7 c8 c9 c10 c11 z0 z1 z2 z3 z4 z5 z6 z7 z8 z9 z10 z11 y0 y1 y2 y3 y4 y5 y6 y7 y8 y9 y10 y11
      generalize rput (w.heap.size + 1) (dg (2 * A)) _ = wz at *
      obtain ⟨c0, c1, c2, c3, c4, c5, c6, c7, c8, c9, c10, c11⟩ := hW.all
      refine bodyPost_ret (v := rwv (2 * A)) (by simp [results, Tryd.results118, go_sem, rwv, c0, c1, c2, c3, c4, c5, c6, c7, c8, c9, c10, c11]) rfl ⟨rfl, hB⟩

set_option maxHeartbeats 1000000 in
theorem rless_any (A B : Int) (w : World) (h0 : 0 ≤ B) (h1 : B ≤ A) (h2 : A < pw 12) :
    Calls Tryd.prog 148 #[rwv A, rwv B] w fun e w' => e = .returned (rwv (A - B)) ∧ Below w.heap.size w w' := by
  have HA := Lib.hid h2
  clear h2
  go_enter Tryd.func148, Tryd.ntmps148
  go_wp2
  go_loopw [6, 7] (fun a i v => ∃ (k : Nat) (f : Nat → Int) (c : Int), k ≤ 12 ∧ i = .int .i64 k ∧ a = .int .u64 c ∧ 0 ≤ c ∧ c ≤ 1 ∧ Rw w.heap.size (dg A) v ∧ Rw (w.heap.size + 1) (dg B) v ∧ Rw (w.heap.size + 2) (fun _ => 0) v ∧ Rw (w.heap.size + 3) f v ∧ Below w.heap.size w v ∧ Hid (Lss A B f k c)) (fun _ i _ => 12 - (intOf i).toNat)
  case atStart => exact ⟨0, fun _ => 0, 0, by omega, rfl, rfl, by omega, by omega, (((Rw.new w (dg A) 160).alloc _).alloc _).alloc _, ((Rw.new' (dg B) 160 (by simp)).alloc _).alloc _, (Rw.new' (fun _ => 0) 160 (by simp)).alloc _, Rw.new' (fun _ => 0) 160 (by simp), (by repeat (first | exact Below.refl _ _ | assumption | apply Below.drew | apply below_drewN | (refine Below.alloc ?_ (by first | exact Nat.le_refl _ | omega | (simp <;> omega)) _) | (refine Below.setCell ?_ (by first | exact Nat.le_refl _ | omega | (simp <;> omega)) _))), Lib.hid (Lss.start A B)⟩
  case round =>
    obtain ⟨k, f, c, hk, rfl, rfl, hc0, hc1, hA, hB, hZ, hR, hb, hU⟩ := hrel
    by_cases hlt : k < 12
    · have hd := dg_bd A k
      have hd' := dg_bd B k
      have st := Lib.hid (hU.out.step)
      have ha := hA.c k hlt
      have hb' := hB.c k hlt
      have hf := hR.f k hlt
      have hc := hR.c k hlt
      go_wp2_with fail
      refine region_still [] [(.free, 0), (.free, 1), (.take, 2), (.free, 3), (.free, 4), (.free, 5), (.take, 6), (.free, 7), (.free, 8), (.free, 9), (.free, 10)] _ (by kernel_rfl) (by kernel_rfl) (by kernel_rfl) (by kernel_rfl) (by decide) rfl (fun _ _ _ _ _ h => h) ?_
      simp only [List.filterMap_cons, List.filterMap_nil, List.getElem?_toArray, List.getElem?_cons_zero, List.getElem?_cons_succ, Option.map_some]
      iterate 2
        first
          | (refine mv_free ?_ (Or.inl ⟨by rfl, ?_⟩) (rfl) ?_
             rotate_left 1
             · intro u
               go_simp
               try with_reducible rfl
             simp only [Act.put, List.setIfInBounds_toArray, List.set_cons_zero, List.set_cons_succ])
          | (refine mv_free _ (Or.inr ⟨by rfl, rfl⟩) (rfl) ?_
             simp only [Act.put, List.setIfInBounds_toArray, List.set_cons_zero, List.set_cons_succ])
      iterate 1
        first
          | (refine mv_take ?_ (Or.inl ⟨by rfl, ?_⟩) (rfl) ?_
             rotate_left 1
             · intro u hu
               (try dsimp only at hu)
               go_simp
               try with_reducible rfl
             simp only [Act.put, List.setIfInBounds_toArray, List.set_cons_zero, List.set_cons_succ])
          | (refine mv_take _ (Or.inr ⟨by rfl, rfl⟩) (rfl) ?_
             simp only [Act.put, List.setIfInBounds_toArray, List.set_cons_zero, List.set_cons_succ])
      iterate 3
        first
          | (refine mv_free ?_ (Or.inl ⟨by rfl, ?_⟩) (rfl) ?_
             rotate_left 1
             · intro u
               go_simp
               try with_reducible rfl
             simp only [Act.put, List.setIfInBounds_toArray, List.set_cons_zero, List.set_cons_succ])
          | (refine mv_free _ (Or.inr ⟨by rfl, rfl⟩) (rfl) ?_
             simp only [Act.put, List.setIfInBounds_toArray, List.set_cons_zero, List.set_cons_succ])
      iterate 1
        first
          | (refine mv_take ?_ (Or.inl ⟨by rfl, ?_⟩) (rfl) ?_
             rotate_left 1
             · intro u hu
               (try dsimp only at hu)
               go_simp
               try with_reducible rfl
             simp only [Act.put, List.setIfInBounds_toArray, List.set_cons_zero, List.set_cons_succ])
          | (refine mv_take _ (Or.inr ⟨by rfl, rfl⟩) (rfl) ?_
             simp only [Act.put, List.setIfInBounds_toArray, List.set_cons_zero, List.set_cons_succ])
      iterate 4
        first
          | (refine mv_free ?_ (Or.inl ⟨by rfl, ?_⟩) (rfl) ?_
             rotate_left 1
             · intro u
               go_simp
               try with_reducible rfl
             simp only [Act.put, List.setIfInBounds_toArray, List.set_cons_zero, List.set_cons_succ])
          | (refine mv_free _ (Or.inr ⟨by rfl, rfl⟩) (rfl) ?_
             simp only [Act.put, List.setIfInBounds_toArray, List.set_cons_zero, List.set_cons_succ])
      refine mv_done ?_
      go_wp2
      go_roundw
      case rel => exact ⟨k + 1, upd f k ((dg A k + 65536 - dg B k - c) % 65536), 1 - (dg A k + 65536 - dg B k - c) / 65536, by omega, by go_num, rfl, by omega, by omega, hA.drew.other (by omega) _ _, hB.drew.other (by omega) _ _, hZ.drew.other (by omega) _ _, hR.drew.set k _ hlt, hb.drew.setCell (by simp; try omega) _, st⟩
      case measure => simp [intOf]; omega
    · obtain rfl : k = 12 := by omega
      have hR := hR.congr (hU.out.fin h0 h1 HA.out hc0)
      have hS12 := hR
      obtain ⟨c0, c1, c2, c3, c4, c5, c6, c7, c8, c9, c10, c11⟩ := hS12.all
      obtain ⟨z0, z1, z2, z3, z4, z5, z6, z7, z8, z9, z10, z11⟩ := (hZ).all
      obtain ⟨y0, y1, y2, y3, y4, y5, y6, y7, y8, y9, y10, y11⟩ := (hZ).allf
      go_wp2
      change bodyPost _ _ _ _ _ (rput (w.heap.size + 2) (dg (A - B)) _)
      have hW := (hZ).put (dg (A - B))
      have hB := rput_below (hb) (by omega : w.heap.size ≤ w.heap.size + 2) (dg (A - B))
      clear c0 c1 c2 c3 c4 c5 c6 c7 c8 c9 c10 c11 z0 z1 z2 z3 z4 z5 z6 z7 z8 z9 z10 z11 y0 y1 y2 y3 y4 y5 y6 y7 y8 y9 y10 y11
      generalize rput (w.heap.size + 2) (dg (A - B)) _ = wz at *
      obtain ⟨c0, c1, c2, c3, c4, c5, c6, c7, c8, c9, c10, c11⟩ := hW.all
      refine bodyPost_ret (v := rwv (A - B)) (by simp [results, Tryd.results148, go_sem, rwv, c0, c1, c2, c3, c4, c5, c6, c7, c8, c9, c10, c11]) rfl ⟨rfl, hB⟩

set_option maxHeartbeats 1000000 in
theorem rmore_any (A : Int) (w : World) (h0 : 0 ≤ A) (h1 : A + 1 < pw 12) :
    Calls Tryd.prog 119 #[rwv A] w fun e w' => e = .returned (rwv (A + 1)) ∧ Below w.heap.size w w' := by
  have HA := Lib.hid h1
  clear h1
  go_enter Tryd.func119, Tryd.ntmps119
  go_wp2
  go_loopw [3] (fun i v => ∃ (k : Nat) (f : Nat → Int), k ≤ 12 ∧ i = .int .i64 k ∧ Rw w.heap.size f v ∧ Rw (w.heap.size + 1) (fun _ => 0) v ∧ Below w.heap.size w v ∧ Hid (Mor A f k)) (fun i _ => 12 - (intOf i).toNat)
  case atStart => exact ⟨0, dg A, by omega, rfl, (Rw.new w (dg A) 160).alloc _, Rw.new' (fun _ => 0) 160 (by simp), (by repeat (first | exact Below.refl _ _ | assumption | apply Below.drew | apply below_drewN | (refine Below.alloc ?_ (by first | exact Nat.le_refl _ | omega | (simp <;> omega)) _) | (refine Below.setCell ?_ (by first | exact Nat.le_refl _ | omega | (simp <;> omega)) _))), Lib.hid (Mor.start h0 (by have := HA.out; omega))⟩
  case round =>
    obtain ⟨k, f, hk, rfl, hA, hZ, hb, hU⟩ := hrel
    by_cases hlt : k < 12
    · have hd := hU.out.1 k hlt
      have hf := hA.f k hlt
      have hc := hA.c k hlt
      have hS1 := hA.set k (f k + 1) hlt
      have hZ1 := hZ.other (show w.heap.size + 1 ≠ w.heap.size by omega) k (.int .u64 (f k + 1))
      have hb1 := hb.setCell (p := ⟨w.heap.size, k, none⟩) (Nat.le_refl _) (.int .u64 (f k + 1))
      have hc1 := hS1.c k hlt
      have hf1 := hS1.f k hlt
      rw [upd_same] at hc1
      by_cases hs : f k + 1 < 65536
      · have hS1 := hS1.congr (hU.out.fin hlt hs)
        have hS12 := hS1
        obtain ⟨c0, c1, c2, c3, c4, c5, c6, c7, c8, c9, c10, c11⟩ := hS12.all
        obtain ⟨z0, z1, z2, z3, z4, z5, z6, z7, z8, z9, z10, z11⟩ := (hZ1).all
        obtain ⟨y0, y1, y2, y3, y4, y5, y6, y7, y8, y9, y10, y11⟩ := (hZ1).allf
        go_wp2
        change bodyPost _ _ _ _ _ (rput (w.heap.size + 1) (dg (A + 1)) _)
        have hW := (hZ1).put (dg (A + 1))
        have hB := rput_below (hb1) (by omega : w.heap.size ≤ w.heap.size + 1) (dg (A + 1))
        clear c0 c1 c2 c3 c4 c5 c6 c7 c8 c9 c10 c11 z0 z1 z2 z3 z4 z5 z6 z7 z8 z9 z10 z11 y0 y1 y2 y3 y4 y5 y6 y7 y8 y9 y10 y11
        generalize rput (w.heap.size + 1) (dg (A + 1)) _ = wz at *
        obtain ⟨c0, c1, c2, c3, c4, c5, c6, c7, c8, c9, c10, c11⟩ := hW.all
        refine bodyPost_ret (v := rwv (A + 1)) (by simp [results, Tryd.results119, go_sem, rwv, c0, c1, c2, c3, c4, c5, c6, c7, c8, c9, c10, c11]) rfl ⟨rfl, hB⟩
      · have st := Lib.hid (hU.out.step hlt hs)
        go_wp2
        go_roundw
        case rel => exact ⟨k + 1, upd (upd f k (f k + 1)) k 0, by omega, by go_num, hS1.set k 0 hlt, hZ1.other (by omega) _ _, hb1.setCell (by simp) _, st⟩
        case measure => simp [intOf]; omega
    · exact absurd hU.out (fun h => by
        obtain rfl : k = 12 := by omega
        exact h.never HA.out)

end Go.Proofs.YtfejdbmamaggpaaDoor
