/- The laws LinkOrder and LinkStale; walked. -/
import Derived.Test.YtflcagcekhgjcaaLink4
import Derived.Deep.Cut
namespace Go.Proofs.Ytflcagcekhgjcaa
open Go.ChangeShapes Go.WideShapes Go.ChangeAt Go.RowKit
set_option linter.unusedVariables false
set_option linter.unusedSimpArgs false
theorem lo_box (w : World) (i s v t : Int) : ∃ V, V = (w.alloc (.cells #[.int .i64 i, .int .i64 s, .int .i64 v, .int .i64 t] 23)) ∧ Below w.heap.size w V ∧ V.heap.size = w.heap.size + 1 ∧ ∀ u, Below (w.heap.size + 1) V u → u.cell? ⟨w.heap.size, 0, none⟩ = some (.int .i64 i) ∧ u.cell? ⟨w.heap.size, 1, none⟩ = some (.int .i64 s) ∧ u.cell? ⟨w.heap.size, 2, none⟩ = some (.int .i64 v) ∧ u.cell? ⟨w.heap.size, 3, none⟩ = some (.int .i64 t) :=
  ⟨_, rfl, (by repeat (first | exact Below.refl _ _ | assumption | apply Below.drew | apply below_drewN | (refine Below.alloc ?_ (by first | exact Nat.le_refl _ | omega | (simp <;> omega)) _) | (refine Below.setCell ?_ (by first | exact Nat.le_refl _ | omega | (simp <;> omega)) _))), by simp, fun u hu => ⟨(bc hu (by omega)).trans (by go_simp), (bc hu (by omega)).trans (by go_simp), (bc hu (by omega)).trans (by go_simp), (bc hu (by omega)).trans (by go_simp)⟩⟩

/-- A link behind so many frames in order. -/
def LkO (b : Nat) (i pa s v t : Int) (k : Nat) (w : World) : Prop := (k = 0 ∧ Held b (lkC i pa 0 0 0 0 false 0 0 0) w) ∨ (0 < k ∧ Held b (lkC i pa i ((s + (k : Int) - 1) % 256) v t true 0 (k : Int) 0) w)
theorem LkO.bel {b : Nat} {i pa s v t : Int} {k : Nat} {w w' : World} (h : LkO b i pa s v t k w) (q : Below w.heap.size w w') : LkO b i pa s v t k w' := by
  rcases h with ⟨e, h⟩ | ⟨e, h⟩
  · exact .inl ⟨e, h.bel q⟩
  · exact .inr ⟨e, h.bel q⟩
theorem LkO.lt {b : Nat} {i pa s v t : Int} {k : Nat} {w : World} (h : LkO b i pa s v t k w) : b < w.heap.size := by
  rcases h with ⟨e, h⟩ | ⟨e, h⟩
  · exact h.lt
  · exact h.lt
theorem LkO.step {b : Nat} {i pa s v t : Int} {k : Nat} {w : World} (h : LkO b i pa s v t k w) (hk : k < 300) (hf : frB i s v t = true) (g c : Nat) (hr : RowIs .u8 w (some ⟨g, 0, none⟩) (puL i ((s + (k : Int)) % 256) v t)) (hg : g ≠ b) :
    Calls Try.prog 27 #[.pointer (some ⟨b, 0, none⟩), .slice (some ⟨g, 0, none⟩) 8 c] w fun e w' => e = .returned (.tuple #[.agg #[.int .i64 i, .int .i64 ((s + (k : Int)) % 256), .int .i64 v, .int .i64 t], .int .i64 0]) ∧ Held b (lkC i pa i ((s + (k : Int)) % 256) v t true 0 ((k : Int) + 1) 0) w' ∧ Beside b w w' := by
  obtain ⟨a1, a2, a3, a4, a5, a6, a7, a8⟩ := frB_at hf
  have hq : frB i ((s + (k : Int)) % 256) v t = true := frB_mk ⟨a1, a2, by omega, by omega, a5, a6, a7, a8⟩
  rcases h with ⟨rfl, h⟩ | ⟨e, h⟩
  · exact lkp_new b g c w h (by omega) (by omega) hq hr hg
  · exact lkp_ok b g c w h (by omega) (by omega) hq hr hg (by omega) (by omega)
theorem LkO.counts {b : Nat} {i pa s v t : Int} {k : Nat} {w : World} (h : LkO b i pa s v t k w) : Calls Try.prog 29 #[.pointer (some ⟨b, 0, none⟩)] w fun e w' => e = .returned (.tuple #[.int .i64 (k : Int), .int .i64 0]) ∧ ∃ n, w' = w.drewN n := by
  rcases h with ⟨rfl, h⟩ | ⟨e, h⟩
  · exact lkcounts b w h
  · exact lkcounts b w h
/-- A frame's number written. -/
theorem Fr4.seq {s : Nat} {a b c d : Int} {v : World} (h : Fr4 s a b c d v) (x : Int) : ∃ u, u = v.setCell ⟨s, 1, none⟩ (.int .i64 x) ∧ Fr4 s a x c d u ∧ Below s v u := by
  refine ⟨_, rfl, ⟨?_, World.cell?_setCell_same _ _ _ h.c1, ?_, ?_, by simpa using h.f0, by simpa using h.f1, by simpa using h.f2, by simpa using h.f3, by simpa using h.lt⟩, (Below.refl _ _).setCell (by exact Nat.le_refl _) _⟩
  · rw [World.cell?_setCell_other _ _ _ _ (by simp)]; exact h.c0
  · rw [World.cell?_setCell_other _ _ _ _ (by simp)]; exact h.c2
  · rw [World.cell?_setCell_other _ _ _ _ (by simp)]; exact h.c3
set_option maxRecDepth 100000 in
set_option maxHeartbeats 8000000 in
theorem law_LinkOrder (i s v t many pa : Int) (w : World) : Calls Try.prog 9 #[.agg #[.int .i64 i, .int .i64 s, .int .i64 v, .int .i64 t], .int .i64 many, .int .i64 pa] w fun e w' => e = .returned (.bool true) ∧ Below w.heap.size w w' := by
  obtain ⟨V, eV, hb0, hz, hcs⟩ := lo_box w i s v t
  have LV := Lib.hid (fun u => lives13 u)
  have RF := fun u => rfright i s v t u
  cases hf : frB i s v t
  · rw [hf] at RF
    replace RF := Lib.hid RF
    clear hf
    replace hb0 := Lib.hid hb0
    replace hz := Lib.hid hz
    replace hcs := Lib.hid hcs
    replace eV := Lib.hid eV
    go_enter Try.func9, Try.ntmps9
    go_wp2_with fail
    rw [← eV.out]
    obtain ⟨k0, k1, k2, k3⟩ := hcs.out _ (Below.refl _ _)
    go_wp2_with fail
    refine (RF.out _).mono ?_
    rintro e w1 ⟨rfl, hb1⟩
    have hb1 := (Below.refl (w.heap.size + 1) V).trans (hb1.mono (Nat.le_of_eq hz.out.symm))
    obtain ⟨k0, k1, k2, k3⟩ := hcs.out _ hb1
    go_wp2_with fail
    refine (LV.out _).mono ?_
    rintro e w20 ⟨rfl, hb20⟩
    have hb20 := hb1.trans (hb20.mono (by have := hb1.size; have := hz.out; omega))
    go_wp2
    go_ret
    exact ⟨rfl, hb0.out.trans (hb20.mono (by omega))⟩
  rw [hf] at RF
  replace RF := Lib.hid RF
  rcases (show many < 0 ∨ (0 ≤ many ∧ 300 < many) ∨ (0 ≤ many ∧ many ≤ 300 ∧ pa < 0) ∨ (0 ≤ many ∧ many ≤ 300 ∧ 0 ≤ pa ∧ 1000 < pa) ∨ (0 ≤ many ∧ many ≤ 300 ∧ 0 ≤ pa ∧ pa ≤ 1000) by omega) with h | ⟨h, h2⟩ | ⟨h, h2, h3⟩ | ⟨h, h2, h3, h4⟩ | ⟨h, h2, h3, h4⟩
  · clear hf
    replace hb0 := Lib.hid hb0
    replace hz := Lib.hid hz
    replace hcs := Lib.hid hcs
    replace eV := Lib.hid eV
    go_enter Try.func9, Try.ntmps9
    go_wp2_with fail
    rw [← eV.out]
    obtain ⟨k0, k1, k2, k3⟩ := hcs.out _ (Below.refl _ _)
    go_wp2_with fail
    refine (RF.out _).mono ?_
    rintro e w1 ⟨rfl, hb1⟩
    have hb1 := (Below.refl (w.heap.size + 1) V).trans (hb1.mono (Nat.le_of_eq hz.out.symm))
    obtain ⟨k0, k1, k2, k3⟩ := hcs.out _ hb1
    go_wp2_with fail
    refine (LV.out _).mono ?_
    rintro e w20 ⟨rfl, hb20⟩
    have hb20 := hb1.trans (hb20.mono (by have := hb1.size; have := hz.out; omega))
    go_wp2
    go_ret
    exact ⟨rfl, hb0.out.trans (hb20.mono (by omega))⟩
  · clear hf
    replace hb0 := Lib.hid hb0
    replace hz := Lib.hid hz
    replace hcs := Lib.hid hcs
    replace eV := Lib.hid eV
    go_enter Try.func9, Try.ntmps9
    go_wp2_with fail
    rw [← eV.out]
    obtain ⟨k0, k1, k2, k3⟩ := hcs.out _ (Below.refl _ _)
    go_wp2_with fail
    refine (RF.out _).mono ?_
    rintro e w1 ⟨rfl, hb1⟩
    have hb1 := (Below.refl (w.heap.size + 1) V).trans (hb1.mono (Nat.le_of_eq hz.out.symm))
    obtain ⟨k0, k1, k2, k3⟩ := hcs.out _ hb1
    go_wp2_with fail
    refine (LV.out _).mono ?_
    rintro e w20 ⟨rfl, hb20⟩
    have hb20 := hb1.trans (hb20.mono (by have := hb1.size; have := hz.out; omega))
    go_wp2
    go_ret
    exact ⟨rfl, hb0.out.trans (hb20.mono (by omega))⟩
  · clear hf
    replace hb0 := Lib.hid hb0
    replace hz := Lib.hid hz
    replace hcs := Lib.hid hcs
    replace eV := Lib.hid eV
    go_enter Try.func9, Try.ntmps9
    go_wp2_with fail
    rw [← eV.out]
    obtain ⟨k0, k1, k2, k3⟩ := hcs.out _ (Below.refl _ _)
    go_wp2_with fail
    refine (RF.out _).mono ?_
    rintro e w1 ⟨rfl, hb1⟩
    have hb1 := (Below.refl (w.heap.size + 1) V).trans (hb1.mono (Nat.le_of_eq hz.out.symm))
    obtain ⟨k0, k1, k2, k3⟩ := hcs.out _ hb1
    go_wp2_with fail
    refine (LV.out _).mono ?_
    rintro e w20 ⟨rfl, hb20⟩
    have hb20 := hb1.trans (hb20.mono (by have := hb1.size; have := hz.out; omega))
    go_wp2
    go_ret
    exact ⟨rfl, hb0.out.trans (hb20.mono (by omega))⟩
  · clear hf
    replace hb0 := Lib.hid hb0
    replace hz := Lib.hid hz
    replace hcs := Lib.hid hcs
    replace eV := Lib.hid eV
    go_enter Try.func9, Try.ntmps9
    go_wp2_with fail
    rw [← eV.out]
    obtain ⟨k0, k1, k2, k3⟩ := hcs.out _ (Below.refl _ _)
    go_wp2_with fail
    refine (RF.out _).mono ?_
    rintro e w1 ⟨rfl, hb1⟩
    have hb1 := (Below.refl (w.heap.size + 1) V).trans (hb1.mono (Nat.le_of_eq hz.out.symm))
    obtain ⟨k0, k1, k2, k3⟩ := hcs.out _ hb1
    go_wp2_with fail
    refine (LV.out _).mono ?_
    rintro e w20 ⟨rfl, hb20⟩
    have hb20 := hb1.trans (hb20.mono (by have := hb1.size; have := hz.out; omega))
    go_wp2
    go_ret
    exact ⟨rfl, hb0.out.trans (hb20.mono (by omega))⟩
  have at' := frB_at hf
  have NW := Lib.hid (fun u => lknew_ok i pa u ⟨at'.1, at'.2.1, h3, h4⟩)
  have ST := Lib.hid (fun (b k : Nat) u (q : LkO b i pa s v t k u) (hk : k < 300) => q.step hk hf)
  have RP0 := Lib.hid (fun (k : Nat) u => rput_ok i ((s + (k : Int)) % 256) v t u (frB_mk ⟨at'.1, at'.2.1, by omega, by omega, at'.2.2.2.2.1, at'.2.2.2.2.2.1, at'.2.2.2.2.2.2.1, at'.2.2.2.2.2.2.2⟩))
  have sb := Lib.hid (show 0 ≤ s ∧ s ≤ 255 from ⟨at'.2.2.1, at'.2.2.2.1⟩)
  have AG := Lib.hid (fun (b : Nat) (q n : Int) u (h : Held b (lkC i pa i q v t true 0 n 0) u) => lkage b u h)
  have SL := fun (b : Nat) (q n : Int) u (h : Held b (lkC i pa i q v t true 0 n 0) u) => lkstale b u h
  rw [show decide (pa < 0) = false from by simp; omega] at SL
  replace SL := Lib.hid SL
  have MB := Lib.hid h2
  clear hf at'
  replace hb0 := Lib.hid hb0
  replace hz := Lib.hid hz
  replace hcs := Lib.hid hcs
  replace eV := Lib.hid eV
  go_enter Try.func9, Try.ntmps9
  go_wp2_with fail
  rw [← eV.out]
  obtain ⟨k0, k1, k2, k3⟩ := hcs.out _ (Below.refl _ _)
  go_wp2_with fail
  refine (RF.out _).mono ?_
  rintro e w1 ⟨rfl, hb1⟩
  have hb1 := (Below.refl (w.heap.size + 1) V).trans (hb1.mono (Nat.le_of_eq hz.out.symm))
  obtain ⟨k0, k1, k2, k3⟩ := hcs.out _ hb1
  go_wp2_with fail
  refine (NW.out _).mono ?_
  rintro e w2 ⟨b, hbb, rfl, hH, hb2⟩
  have hb2 := hb1.trans (hb2.mono (by have := hb1.size; have := hz.out; omega))
  have hbb := Lib.hid (show w.heap.size + 1 ≤ b from by have := hb1.size; have := hz.out; omega)
  have hO := Lib.hid (show LkO b i pa s v t 0 w2 from .inl ⟨rfl, hH⟩)
  clear hb1 hH
  obtain ⟨k0, k1, k2, k3⟩ := hcs.out _ hb2
  go_wp2_with fail
  go_loopw [9] (fun x u => ∃ k : Nat, (k : Int) ≤ many ∧ x = .int .i64 (k : Int) ∧ Below (w.heap.size + 1) V u ∧ Hid (LkO b i pa s v t k u)) (fun x _ => many.toNat - (intOf x).toNat)
  case atStart => exact ⟨0, by omega, rfl, hb2, hO⟩
  case round =>
    clear hb2 hO k0 k1 k2 k3
    obtain ⟨k, hk, rfl, hb, hO⟩ := hrel
    obtain ⟨k0, k1, k2, k3⟩ := hcs.out _ hb
    have mb := MB.out
    by_cases hlt : (k : Int) < many
    · have l0 : 0 ≤ (k : Int) := by omega
      have RP := Lib.hid (RP0.out k)
      have sb' := sb.out
      obtain ⟨q, hq⟩ : ∃ q, q = (s + (k : Int)) % 256 := ⟨_, rfl⟩
      have n1 : IntKind.i64.wrap (s + (k : Int)) = s + (k : Int) := by rw [IntKind.wrap_i64]; omega
      have n2 : (s + (k : Int)).tmod 256 = q := by rw [Int.tmod_eq_emod_of_nonneg (by omega), hq]
      have SP := Lib.hid (fun u (z : LkO b i pa s v t k u) => ST.out b k u z (by omega))
      rw [← hq] at RP SP
      have NX := Lib.hid (fun u (z : Held b (lkC i pa i q v t true 0 ((k : Int) + 1) 0) u) => show LkO b i pa s v t (k + 1) u from .inr ⟨by omega, by
        rw [show (s + ((k + 1 : Nat) : Int) - 1) % 256 = q from by rw [hq]; congr 1; push_cast; omega, show ((k + 1 : Nat) : Int) = (k : Int) + 1 from by push_cast; rfl]
        exact z⟩)
      clear sb' hq
      generalize wr = v0 at *
      have HB0 := Lib.hid hb
      have hsz := Lib.hid (show w.heap.size + 1 ≤ v0.heap.size from by have := hb.size; have := hz.out; omega)
      obtain ⟨V1, eV1, hm1, hF1, hz1⟩ := f4_alloc v0 i s v t
      obtain ⟨U, eU, hF2, hm2⟩ := hF1.seq q
      have hbU := hm1.trans hm2
      have hO2 := hO.out.bel hbU
      have hbs := hb.trans (hbU.mono hsz.out)
      have hbs1 := hO.out.lt
      obtain ⟨s1, es1⟩ : ∃ x, x = v0.heap.size := ⟨_, rfl⟩
      rw [← es1] at hF1 hF2 eU
      have hsb : b < s1 := by omega
      replace eV1 := Lib.hid eV1
      replace eU := Lib.hid eU
      replace hF2 := Lib.hid hF2
      replace hO2 := Lib.hid hO2
      replace hbs := Lib.hid hbs
      replace es1 := Lib.hid es1
      replace hsb := Lib.hid hsb
      clear hm1 hm2 hz1 hbU hb hO hbs1
      go_upto_region 10 with (fail)
      rw [← eV1.out]
      have k1 : V1.cell? ⟨w.heap.size, 1, none⟩ = some (.int .i64 s) := by
        have hB1 := (hcs.out V1 (by rw [eV1.out]; exact (show Below (w.heap.size + 1) V v0 from HB0.out).alloc hsz.out _))
        exact hB1.2.1
      obtain ⟨-, j1, -, -, -, f1, -, -, -⟩ := hF1
      rw [← es1.out]
      go_upto_region 11 with (fail)
      rw [← eU.out]
      clear k0 k1 k2 k3 j1 f1
      obtain ⟨j0, j1, j2, j3, -, -, -, -, -⟩ := hF2.out
      go_wp2_with fail
      refine (RP.out _).mono ?_
      rintro e w3 ⟨g5, c5, rfl, ho5, hq3⟩
      obtain ⟨hr5, hg5, -⟩ := own_bytes ho5 (by decide) rfl
      have hO3 := hO2.out.bel hq3
      have hF3 := hF2.out.keep hq3
      have hb3 := hbs.out.trans (hq3.mono (by have := hbs.out.size; have := hz.out; omega))
      have hne : g5 ≠ b := by have := hO2.out.lt; omega
      clear ho5 hq3 j0 j1 j2 j3
      go_wp2_with fail
      refine (SP.out _ hO3 g5 c5 hr5 hne).mono ?_
      rintro e w4 ⟨rfl, hH4, bs4⟩
      have hF4 := hF3.beside bs4 (by have := hsb.out; omega)
      have hb4 := hb3.trans (bs4.below hbb.out (by have := hb3.size; have := hz.out; omega))
      clear hO3 hF3 hb3 bs4 hr5
      go_upto_region 12 with (fail)
      obtain ⟨V5, eV5, hm5, hF5, hz5⟩ := f4_alloc w4 i q v t
      rw [← eV5]
      replace eV5 := Lib.hid eV5
      have hF6 := hF4.keep hm5
      have hH5 := hH4.bel hm5
      have hb5 := Lib.hid (hb4.trans (hm5.mono (by have := hb4.size; have := hz.out; omega)))
      clear hF4 hH4 hb4 hm5 hz5
      obtain ⟨j0, j1, j2, j3, -, -, -, -, -⟩ := hF6
      obtain ⟨i0, i1, i2, i3, -, -, -, -, -⟩ := hF5
      replace hH5 := Lib.hid hH5
      go_wp2_with fail
      refine (AG.out _ _ _ _ hH5.out).mono ?_
      rintro e w6 ⟨rfl, rfl⟩
      go_wp2_with fail
      refine (SL.out _ _ _ _ hH5.out).mono ?_
      rintro e w6 ⟨rfl, rfl⟩
      go_wp2
      go_roundw
      case rel => exact ⟨k + 1, by omega, by go_num, hb5.out.drew, Lib.hid (NX.out _ hH5.out.drew)⟩
      case measure => simp [intOf]; omega
    · have ek : many = (k : Int) := by omega
      subst ek
      have CT := Lib.hid hO.out.counts
      go_wp2_with fail
      refine CT.out.mono ?_
      rintro e w6 ⟨rfl, n, rfl⟩
      have hb6 := below_drewN hb n
      clear hb hO
      go_wp2_with fail
      refine (LV.out _).mono ?_
      rintro e w20 ⟨rfl, hb20⟩
      have hb21 := Lib.hid (hb0.out.trans ((hb6.trans (hb20.mono (by have := hb6.size; have := hz.out; omega))).mono (by omega)))
      clear hb6 hb20
      go_wp2
      go_ret
      exact ⟨rfl, hb21.out⟩
end Go.Proofs.Ytflcagcekhgjcaa
