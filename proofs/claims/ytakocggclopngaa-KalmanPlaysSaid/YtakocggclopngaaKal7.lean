/- The laws KalmanSure and KalmanExpected, walked. -/
import Derived.Test.YtakocggclopngaaKal6
namespace Go.Proofs.Ytakocggclopngaa
open Go.ChangeShapes Go.WideShapes Go.ChangeAt Go.RowKit
set_option linter.unusedVariables false
set_option linter.unusedSimpArgs false
theorem op_at {w : World} {t : Option Addr} {rows : List (List Value)} (h : Tab [none, some .i64, some .i64, some .i64, some .i64, some .i64] w t rows) {i : Nat} (hi : i < rows.length) :
    ∃ tb off bt, ∃ (H : Nat → Int) (z n : Int), t = some ⟨tb, off, none⟩ ∧ tb < w.heap.size ∧ ∀ v, Below w.heap.size w v → v.cell? ⟨tb, off + i * 6, none⟩ = some (.bool bt) ∧ v.cell? ⟨tb, off + i * 6 + 1, none⟩ = some (.int .i64 (H 0)) ∧ v.cell? ⟨tb, off + i * 6 + 2, none⟩ = some (.int .i64 (H 1)) ∧ v.cell? ⟨tb, off + i * 6 + 3, none⟩ = some (.int .i64 (H 2)) ∧ v.cell? ⟨tb, off + i * 6 + 4, none⟩ = some (.int .i64 z) ∧ v.cell? ⟨tb, off + i * 6 + 5, none⟩ = some (.int .i64 n) := by
  obtain ⟨tb, off, r, rfl, htb, hr, hfl, hcell⟩ := h.at hi
  obtain ⟨bt, _, rfl, hfl⟩ := hfl
  obtain ⟨x, _, rfl, _, hfl⟩ := hfl
  obtain ⟨y, _, rfl, _, hfl⟩ := hfl
  obtain ⟨u, _, rfl, _, hfl⟩ := hfl
  obtain ⟨z, _, rfl, _, hfl⟩ := hfl
  obtain ⟨n, _, rfl, _, hfl⟩ := hfl
  exact ⟨tb, off, bt, fun j => match j with | 0 => x | 1 => y | _ => u, z, n, rfl, htb, fun v hv => ⟨(bc hv htb).trans (hcell 0 _ rfl), (bc hv htb).trans (hcell 1 _ rfl), (bc hv htb).trans (hcell 2 _ rfl), (bc hv htb).trans (hcell 3 _ rfl), (bc hv htb).trans (hcell 4 _ rfl), (bc hv htb).trans (hcell 5 _ rfl)⟩⟩
theorem ksu_box (w : World) (A D : Nat → Int) (g : Int) : ∃ V, V = (w.alloc (.cells #[.int .i64 (A 0), .int .i64 (A 1), .int .i64 (A 2), .int .i64 (D 0), .int .i64 (D 1), .int .i64 (D 2), .int .i64 g] 84)) ∧ Below w.heap.size w V ∧ Held w.heap.size [.int .i64 (A 0), .int .i64 (A 1), .int .i64 (A 2), .int .i64 (D 0), .int .i64 (D 1), .int .i64 (D 2), .int .i64 g] V ∧ V.heap.size = w.heap.size + 1 := by
  refine ⟨_, rfl, (by repeat (first | exact Below.refl _ _ | assumption | apply Below.drew | apply below_drewN | (refine Below.alloc ?_ (by first | exact Nat.le_refl _ | omega | (simp <;> omega)) _) | (refine Below.setCell ?_ (by first | exact Nat.le_refl _ | omega | (simp <;> omega)) _))), ?_, by simp⟩
  · have := (Held.new w [.int .i64 (A 0), .int .i64 (A 1), .int .i64 (A 2), .int .i64 (D 0), .int .i64 (D 1), .int .i64 (D 2), .int .i64 g] 84)
    simpa using this
theorem kex_box (w : World) (A D : Nat → Int) (g : Int) (H : Nat → Int) (z n : Int) : ∃ V, V = ((w.alloc (.cells #[.int .i64 (A 0), .int .i64 (A 1), .int .i64 (A 2), .int .i64 (D 0), .int .i64 (D 1), .int .i64 (D 2), .int .i64 g] 84)).alloc (.cells #[.int .i64 (H 0), .int .i64 (H 1), .int .i64 (H 2), .int .i64 z, .int .i64 n] 86)) ∧ Below w.heap.size w V ∧ Held w.heap.size [.int .i64 (A 0), .int .i64 (A 1), .int .i64 (A 2), .int .i64 (D 0), .int .i64 (D 1), .int .i64 (D 2), .int .i64 g] V ∧ Held (w.heap.size + 1) [.int .i64 (H 0), .int .i64 (H 1), .int .i64 (H 2), .int .i64 z, .int .i64 n] V ∧ V.heap.size = w.heap.size + 2 := by
  refine ⟨_, rfl, (by repeat (first | exact Below.refl _ _ | assumption | apply Below.drew | apply below_drewN | (refine Below.alloc ?_ (by first | exact Nat.le_refl _ | omega | (simp <;> omega)) _) | (refine Below.setCell ?_ (by first | exact Nat.le_refl _ | omega | (simp <;> omega)) _))), ?_, ?_, by simp⟩
  · have := ((Held.new w [.int .i64 (A 0), .int .i64 (A 1), .int .i64 (A 2), .int .i64 (D 0), .int .i64 (D 1), .int .i64 (D 2), .int .i64 g] 84).alloc (.cells #[.int .i64 (H 0), .int .i64 (H 1), .int .i64 (H 2), .int .i64 z, .int .i64 n] 86))
    simpa using this
  · have := (Held.new (w.alloc (.cells #[.int .i64 (A 0), .int .i64 (A 1), .int .i64 (A 2), .int .i64 (D 0), .int .i64 (D 1), .int .i64 (D 2), .int .i64 g] 84)) [.int .i64 (H 0), .int .i64 (H 1), .int .i64 (H 2), .int .i64 z, .int .i64 n] 86)
    simpa using this
set_option maxRecDepth 100000 in
set_option maxHeartbeats 8000000 in
theorem law_KalmanSure (A D : Nat → Int) (g : Int) (t : Option Addr) (cap : Nat) (rows : List (List Value)) (w : World) (ht : Tab [none, some .i64, some .i64, some .i64, some .i64, some .i64] w t rows) (hl : rows.length ≤ maxLen) : Calls Try.prog 9 #[.agg #[.int .i64 (A 0), .int .i64 (A 1), .int .i64 (A 2), .int .i64 (D 0), .int .i64 (D 1), .int .i64 (D 2), .int .i64 g], .slice t rows.length cap] w fun e w' => e = .returned (.bool true) ∧ Below w.heap.size w w' := by
  unfold maxLen at hl
  obtain ⟨V, eV, hb0, hA, hz⟩ := ksu_box w A D g
  have KA := Lib.hid hA
  replace eV := Lib.hid eV
  replace hz := Lib.hid hz
  have BS := Lib.hid hb0
  clear hA hb0
  have hh_ := KA.out
  obtain ⟨c0, f0⟩ := hh_.one 0 rfl
  obtain ⟨c1, f1⟩ := hh_.one 1 rfl
  obtain ⟨c2, f2⟩ := hh_.one 2 rfl
  obtain ⟨c3, f3⟩ := hh_.one 3 rfl
  obtain ⟨c4, f4⟩ := hh_.one 4 rfl
  obtain ⟨c5, f5⟩ := hh_.one 5 rfl
  obtain ⟨c6, f6⟩ := hh_.one 6 rfl
  clear hh_
  cases hR : knR A D g
  · have NW := Lib.hid (fun u => knew_no A D g hR u)
    clear hR
    go_enter Try.func9, Try.ntmps9
    go_wp2_with fail
    rw [← eV.out]
    go_wp2_with fail
    refine (NW.out _).mono ?_
    rintro e w1 ⟨rfl, hq⟩
    replace BS := Lib.hid (BS.out.trans (hq.mono BS.out.size))
    go_wp2_with (go_at_call 54; refine (lives41 _).mono ?_; rintro e w1 ⟨rfl, hb2⟩)
    go_ret
    exact ⟨rfl, BS.out.trans (hb2.mono BS.out.size)⟩
  · obtain ⟨gb, gd, ga⟩ := knR_true hR
    have ok0 := Lib.hid (kn_ok ga gd)
    have NW := Lib.hid (fun u => knew_ok A D g hR u)
    clear hR gd ga
    by_cases hbig : 60 < rows.length
    · go_enter Try.func9, Try.ntmps9
      go_wp2_with fail
      rw [← eV.out]
      go_wp2_with fail
      refine (NW.out _).mono ?_
      rintro e w1 ⟨b, hb, rfl, k1, hq⟩
      replace BS := Lib.hid (BS.out.trans (hq.mono BS.out.size))
      go_wp2_with (go_at_call 54; refine (lives41 _).mono ?_; rintro e w1 ⟨rfl, hb2⟩)
      go_ret
      exact ⟨rfl, BS.out.trans (hb2.mono BS.out.size)⟩
    · go_enter Try.func9, Try.ntmps9
      go_wp2_with fail
      rw [← eV.out]
      go_wp2_with fail
      refine (NW.out _).mono ?_
      rintro e w1 ⟨b, hb, rfl, k1, hq⟩
      have HL := Lib.hid (show w.heap.size + 1 ≤ b by have := hz.out; omega)
      have KO := Lib.hid (show Held b (KeC (KS.mk A (dgl D) 0 0).X (KS.mk A (dgl D) 0 0).P g (KS.mk A (dgl D) 0 0).tk (KS.mk A (dgl D) 0 0).rf) w1 from k1)
      replace BS := Lib.hid (BS.out.trans (hq.mono BS.out.size))
      clear hq hb k1 KA c0 c1 c2 c3 c4 c5 c6 f0 f1 f2 f3 f4 f5 f6
      generalize KS.mk A (dgl D) 0 0 = S0 at *
      go_wp2_with fail
      go_loopw [7] (fun i v => ∃ (k : Nat) (S : KS), k ≤ rows.length ∧ i = .int .i64 k ∧ Hid (KSOk k S) ∧ Hid (Held b (KeC S.X S.P g S.tk S.rf) v) ∧ Hid (Below w.heap.size w v)) (fun i _ => rows.length - (intOf i).toNat)
      case atStart => exact ⟨0, S0, Nat.zero_le _, rfl, ok0, KO, BS⟩
      case round =>
        clear ok0 KO BS
        obtain ⟨k, S, hk, rfl, ok, KO, BS⟩ := hrel
        by_cases hlt : k < rows.length
        · obtain ⟨tb, off, bt, H', z', n', rfl, htb, hcells⟩ := op_at ht hlt
          have hcells := Lib.hid hcells
          clear ht
          obtain ⟨m0, m1, m2, m3, m4, m5⟩ := hcells.out wr BS.out
          cases bt
          · have ST := Lib.hid (kupdate b S g H' z' n' wr KO.out gb (by have := ok.out.t0; have := ok.out.t1; omega) (by have := ok.out.r0; have := ok.out.r1; omega))
            have hok := Lib.hid (kuS_ok ok.out g H' z' n')
            generalize kuS S g H' z' n' = Z at *
            go_wp2_with fail
            refine ST.out.mono ?_
            rintro e w2 ⟨rfl, k2, b2⟩
            have KZ := Lib.hid k2
            have BZ := Lib.hid (Below.beside BS.out b2 (by have := HL.out; omega))
            clear k2 b2 ST KO BS ok m0 m1 m2 m3 m4 m5 
            have DB := Lib.hid (kdoubt b _ _ _ _ _ w2 KZ.out)
            have MS := Lib.hid (fun u => msym Z.P hok.out.p.sym u)
            have WI := fun u => rwithin Z.X (-68719476736) 68719476736 u
            rw [hok.out.x] at WI
            replace WI := Lib.hid WI
            have d0 := hok.out.p.d 0 (by omega) (by omega)
            have d4 := hok.out.p.d 4 (by omega) (by omega)
            have d8 := hok.out.p.d 8 (by omega) (by omega)
            go_wp2_with fail
            refine DB.out.mono ?_
            rintro e w3 ⟨rfl, hq⟩
            replace KZ := Lib.hid (KZ.out.bel hq)
            replace BZ := Lib.hid (BZ.out.trans (hq.mono BZ.out.size))
            clear hq
            go_upto_region 11 with (fail)
            obtain ⟨db, edb⟩ : ∃ db, db = w3.heap.size := ⟨_, rfl⟩
            have dbw : w.heap.size ≤ db := by rw [edb]; exact BZ.out.size
            obtain ⟨w4, ew4⟩ : ∃ w4, w4 = w3.alloc (.cells #[.int .i64 (Z.P 0), .int .i64 (Z.P 1), .int .i64 (Z.P 2), .int .i64 (Z.P 3), .int .i64 (Z.P 4), .int .i64 (Z.P 5), .int .i64 (Z.P 6), .int .i64 (Z.P 7), .int .i64 (Z.P 8)] 56) := ⟨_, rfl⟩
            have KD := Lib.hid (show Held db [.int .i64 (Z.P 0), .int .i64 (Z.P 1), .int .i64 (Z.P 2), .int .i64 (Z.P 3), .int .i64 (Z.P 4), .int .i64 (Z.P 5), .int .i64 (Z.P 6), .int .i64 (Z.P 7), .int .i64 (Z.P 8)] w4 by rw [ew4, edb]; exact Held.new w3 [.int .i64 (Z.P 0), .int .i64 (Z.P 1), .int .i64 (Z.P 2), .int .i64 (Z.P 3), .int .i64 (Z.P 4), .int .i64 (Z.P 5), .int .i64 (Z.P 6), .int .i64 (Z.P 7), .int .i64 (Z.P 8)] 56)
            have hq4 : Below w3.heap.size w3 w4 := by rw [ew4]; exact (Below.refl _ _).alloc (Nat.le_refl _) _
            replace KZ := Lib.hid (KZ.out.bel hq4)
            replace BZ := Lib.hid (BZ.out.trans (hq4.mono BZ.out.size))
            clear hq4
            rw [← ew4, ← edb]
            replace ew4 := Lib.hid ew4
            replace edb := Lib.hid edb
            have hh_ := KD.out
            obtain ⟨c0, f0⟩ := hh_.one 0 rfl
            obtain ⟨c1, f1⟩ := hh_.one 1 rfl
            obtain ⟨c2, f2⟩ := hh_.one 2 rfl
            obtain ⟨c3, f3⟩ := hh_.one 3 rfl
            obtain ⟨c4, f4⟩ := hh_.one 4 rfl
            obtain ⟨c5, f5⟩ := hh_.one 5 rfl
            obtain ⟨c6, f6⟩ := hh_.one 6 rfl
            obtain ⟨c7, f7⟩ := hh_.one 7 rfl
            obtain ⟨c8, f8⟩ := hh_.one 8 rfl
            clear hh_
            go_wp2_with fail
            refine (MS.out _).mono ?_
            rintro e w5 ⟨rfl, hq⟩
            replace KZ := Lib.hid (KZ.out.bel hq)
            replace KD := Lib.hid (KD.out.bel hq)
            replace BZ := Lib.hid (BZ.out.trans (hq.mono BZ.out.size))
            clear hq c0 f0 c1 f1 c2 f2 c3 f3 c4 f4 c5 f5 c6 f6 c7 f7 c8 f8
            go_wp2_with fail
            refine (kstate b _ _ _ _ _ _ KZ.out).mono ?_
            rintro e w6 ⟨rfl, hq⟩
            replace KZ := Lib.hid (KZ.out.bel hq)
            replace KD := Lib.hid (KD.out.bel hq)
            replace BZ := Lib.hid (BZ.out.trans (hq.mono BZ.out.size))
            clear hq
            go_wp2_with fail
            refine (WI.out _).mono ?_
            rintro e w7 ⟨rfl, hq⟩
            replace KZ := Lib.hid (KZ.out.bel hq)
            replace KD := Lib.hid (KD.out.bel hq)
            replace BZ := Lib.hid (BZ.out.trans (hq.mono BZ.out.size))
            clear hq
            have c0 : w7.cell? ⟨db, 0, none⟩ = some (.int .i64 (Z.P 0)) := KD.out.c 0 _ rfl
            have c4 : w7.cell? ⟨db, 4, none⟩ = some (.int .i64 (Z.P 4)) := KD.out.c 4 _ rfl
            have c8 : w7.cell? ⟨db, 8, none⟩ = some (.int .i64 (Z.P 8)) := KD.out.c 8 _ rfl
            obtain ⟨d0a, d0b⟩ := d0
            obtain ⟨d4a, d4b⟩ := d4
            obtain ⟨d8a, d8b⟩ := d8
            go_wp2_with fail
            generalize wr = v0 at *
            go_loopw [9] (fun i v => ∃ l : Nat, l ≤ 3 ∧ i = .int .i64 (l : Int) ∧ Hid (v = w7)) (fun i _ => 3 - (intOf i).toNat)
            case atStart => exact ⟨0, by omega, rfl, Lib.hid rfl⟩
            case round =>
              obtain ⟨l, hl3, rfl, ev⟩ := hrel
              obtain rfl := ev.out
              rcases (show l = 0 ∨ l = 1 ∨ l = 2 ∨ l = 3 by omega) with rfl | rfl | rfl | rfl
              · have kk : ((0 : Nat) : Int) = 0 := rfl
                go_wp2
                go_roundw
                case rel => exact ⟨0 + 1, by omega, by first | rfl | go_num, by first | exact ev | exact Lib.hid trivial⟩
                case measure => simp [intOf]
              · have kk : ((1 : Nat) : Int) = 1 := rfl
                go_wp2
                go_roundw
                case rel => exact ⟨1 + 1, by omega, by first | rfl | go_num, by first | exact ev | exact Lib.hid trivial⟩
                case measure => simp [intOf]
              · have kk : ((2 : Nat) : Int) = 2 := rfl
                go_wp2
                go_roundw
                case rel => exact ⟨2 + 1, by omega, by first | rfl | go_num, by first | exact ev | exact Lib.hid trivial⟩
                case measure => simp [intOf]
              · have kk : ((3 : Nat) : Int) = 3 := rfl
                go_wp2
                go_roundw
                case rel => exact ⟨k + 1, Z, by omega, by go_num, hok, KZ, BZ⟩
                case measure => simp [intOf]; omega
          · have ST := Lib.hid (kpredict b S g H' wr KO.out ok.out.p.b)
            have hok := Lib.hid (kpS_ok ok.out H')
            generalize kpS S H' = Z at *
            go_wp2_with fail
            refine ST.out.mono ?_
            rintro e w2 ⟨rfl, k2, b2⟩
            have KZ := Lib.hid k2
            have BZ := Lib.hid (Below.beside BS.out b2 (by have := HL.out; omega))
            clear k2 b2 ST KO BS ok m0 m1 m2 m3 m4 m5 
            have DB := Lib.hid (kdoubt b _ _ _ _ _ w2 KZ.out)
            have MS := Lib.hid (fun u => msym Z.P hok.out.p.sym u)
            have WI := fun u => rwithin Z.X (-68719476736) 68719476736 u
            rw [hok.out.x] at WI
            replace WI := Lib.hid WI
            have d0 := hok.out.p.d 0 (by omega) (by omega)
            have d4 := hok.out.p.d 4 (by omega) (by omega)
            have d8 := hok.out.p.d 8 (by omega) (by omega)
            go_wp2_with fail
            refine DB.out.mono ?_
            rintro e w3 ⟨rfl, hq⟩
            replace KZ := Lib.hid (KZ.out.bel hq)
            replace BZ := Lib.hid (BZ.out.trans (hq.mono BZ.out.size))
            clear hq
            go_upto_region 11 with (fail)
            obtain ⟨db, edb⟩ : ∃ db, db = w3.heap.size := ⟨_, rfl⟩
            have dbw : w.heap.size ≤ db := by rw [edb]; exact BZ.out.size
            obtain ⟨w4, ew4⟩ : ∃ w4, w4 = w3.alloc (.cells #[.int .i64 (Z.P 0), .int .i64 (Z.P 1), .int .i64 (Z.P 2), .int .i64 (Z.P 3), .int .i64 (Z.P 4), .int .i64 (Z.P 5), .int .i64 (Z.P 6), .int .i64 (Z.P 7), .int .i64 (Z.P 8)] 56) := ⟨_, rfl⟩
            have KD := Lib.hid (show Held db [.int .i64 (Z.P 0), .int .i64 (Z.P 1), .int .i64 (Z.P 2), .int .i64 (Z.P 3), .int .i64 (Z.P 4), .int .i64 (Z.P 5), .int .i64 (Z.P 6), .int .i64 (Z.P 7), .int .i64 (Z.P 8)] w4 by rw [ew4, edb]; exact Held.new w3 [.int .i64 (Z.P 0), .int .i64 (Z.P 1), .int .i64 (Z.P 2), .int .i64 (Z.P 3), .int .i64 (Z.P 4), .int .i64 (Z.P 5), .int .i64 (Z.P 6), .int .i64 (Z.P 7), .int .i64 (Z.P 8)] 56)
            have hq4 : Below w3.heap.size w3 w4 := by rw [ew4]; exact (Below.refl _ _).alloc (Nat.le_refl _) _
            replace KZ := Lib.hid (KZ.out.bel hq4)
            replace BZ := Lib.hid (BZ.out.trans (hq4.mono BZ.out.size))
            clear hq4
            rw [← ew4, ← edb]
            replace ew4 := Lib.hid ew4
            replace edb := Lib.hid edb
            have hh_ := KD.out
            obtain ⟨c0, f0⟩ := hh_.one 0 rfl
            obtain ⟨c1, f1⟩ := hh_.one 1 rfl
            obtain ⟨c2, f2⟩ := hh_.one 2 rfl
            obtain ⟨c3, f3⟩ := hh_.one 3 rfl
            obtain ⟨c4, f4⟩ := hh_.one 4 rfl
            obtain ⟨c5, f5⟩ := hh_.one 5 rfl
            obtain ⟨c6, f6⟩ := hh_.one 6 rfl
            obtain ⟨c7, f7⟩ := hh_.one 7 rfl
            obtain ⟨c8, f8⟩ := hh_.one 8 rfl
            clear hh_
            go_wp2_with fail
            refine (MS.out _).mono ?_
            rintro e w5 ⟨rfl, hq⟩
            replace KZ := Lib.hid (KZ.out.bel hq)
            replace KD := Lib.hid (KD.out.bel hq)
            replace BZ := Lib.hid (BZ.out.trans (hq.mono BZ.out.size))
            clear hq c0 f0 c1 f1 c2 f2 c3 f3 c4 f4 c5 f5 c6 f6 c7 f7 c8 f8
            go_wp2_with fail
            refine (kstate b _ _ _ _ _ _ KZ.out).mono ?_
            rintro e w6 ⟨rfl, hq⟩
            replace KZ := Lib.hid (KZ.out.bel hq)
            replace KD := Lib.hid (KD.out.bel hq)
            replace BZ := Lib.hid (BZ.out.trans (hq.mono BZ.out.size))
            clear hq
            go_wp2_with fail
            refine (WI.out _).mono ?_
            rintro e w7 ⟨rfl, hq⟩
            replace KZ := Lib.hid (KZ.out.bel hq)
            replace KD := Lib.hid (KD.out.bel hq)
            replace BZ := Lib.hid (BZ.out.trans (hq.mono BZ.out.size))
            clear hq
            have c0 : w7.cell? ⟨db, 0, none⟩ = some (.int .i64 (Z.P 0)) := KD.out.c 0 _ rfl
            have c4 : w7.cell? ⟨db, 4, none⟩ = some (.int .i64 (Z.P 4)) := KD.out.c 4 _ rfl
            have c8 : w7.cell? ⟨db, 8, none⟩ = some (.int .i64 (Z.P 8)) := KD.out.c 8 _ rfl
            obtain ⟨d0a, d0b⟩ := d0
            obtain ⟨d4a, d4b⟩ := d4
            obtain ⟨d8a, d8b⟩ := d8
            go_wp2_with fail
            generalize wr = v0 at *
            go_loopw [9] (fun i v => ∃ l : Nat, l ≤ 3 ∧ i = .int .i64 (l : Int) ∧ Hid (v = w7)) (fun i _ => 3 - (intOf i).toNat)
            case atStart => exact ⟨0, by omega, rfl, Lib.hid rfl⟩
            case round =>
              obtain ⟨l, hl3, rfl, ev⟩ := hrel
              obtain rfl := ev.out
              rcases (show l = 0 ∨ l = 1 ∨ l = 2 ∨ l = 3 by omega) with rfl | rfl | rfl | rfl
              · have kk : ((0 : Nat) : Int) = 0 := rfl
                go_wp2
                go_roundw
                case rel => exact ⟨0 + 1, by omega, by first | rfl | go_num, by first | exact ev | exact Lib.hid trivial⟩
                case measure => simp [intOf]
              · have kk : ((1 : Nat) : Int) = 1 := rfl
                go_wp2
                go_roundw
                case rel => exact ⟨1 + 1, by omega, by first | rfl | go_num, by first | exact ev | exact Lib.hid trivial⟩
                case measure => simp [intOf]
              · have kk : ((2 : Nat) : Int) = 2 := rfl
                go_wp2
                go_roundw
                case rel => exact ⟨2 + 1, by omega, by first | rfl | go_num, by first | exact ev | exact Lib.hid trivial⟩
                case measure => simp [intOf]
              · have kk : ((3 : Nat) : Int) = 3 := rfl
                go_wp2
                go_roundw
                case rel => exact ⟨k + 1, Z, by omega, by go_num, hok, KZ, BZ⟩
                case measure => simp [intOf]; omega
        · go_wp2_with (go_at_call 54; refine (lives41 _).mono ?_; rintro e w1 ⟨rfl, hb2⟩)
          go_ret
          exact ⟨rfl, BS.out.trans (hb2.mono BS.out.size)⟩
set_option maxRecDepth 100000 in
set_option maxHeartbeats 8000000 in
theorem kuS_X_same (S : KS) (g : Int) (H : Nat → Int) (n : Int) (hx : kIn S.X (-68719476736) 68719476736 = true) : kuE S g H (dtI H S.X) n ≠ 0 ∨ (kuE S g H (dtI H S.X) n = 0 ∧ ∀ t, t < 3 → (kuS S g H (dtI H S.X) n).X t = S.X t) := by
  unfold kuE kuS
  split
  · split
    · left; decide
    · right
      refine ⟨rfl, fun t ht => ?_⟩
      show kX S.X S.P H n (kOff S.X H (dtI H S.X)) t = S.X t
      rw [show kOff S.X H (dtI H S.X) = 0 by unfold kOff; omega]
      exact kX_same (kIn_at hx ht)
  · left; decide
theorem kuE_same (S : KS) (g : Int) (H : Nat → Int) (z n : Int) : kuE S g H z n = 0 ∨ (kuE S g H z n ≠ 0 ∧ (kuS S g H z n).X = S.X ∧ (kuS S g H z n).P = S.P) := by
  unfold kuE kuS
  split
  · split
    · right; exact ⟨by decide, rfl, rfl⟩
    · left; rfl
  · right; exact ⟨by decide, rfl, rfl⟩
set_option maxRecDepth 100000 in
set_option maxHeartbeats 8000000 in
theorem law_KalmanExpected (A D : Nat → Int) (g : Int) (t : Option Addr) (cap : Nat) (rows : List (List Value)) (H : Nat → Int) (z n : Int) (w : World) (ht : Tab [none, some .i64, some .i64, some .i64, some .i64, some .i64] w t rows) (hl : rows.length ≤ maxLen) : Calls Try.prog 10 #[.agg #[.int .i64 (A 0), .int .i64 (A 1), .int .i64 (A 2), .int .i64 (D 0), .int .i64 (D 1), .int .i64 (D 2), .int .i64 g], .slice t rows.length cap, .agg #[.int .i64 (H 0), .int .i64 (H 1), .int .i64 (H 2), .int .i64 z, .int .i64 n]] w fun e w' => e = .returned (.bool true) ∧ Below w.heap.size w w' := by
  unfold maxLen at hl
  obtain ⟨V, eV, hb0, hA, hH, hz⟩ := kex_box w A D g H z n
  have KA := Lib.hid hA
  have KM := Lib.hid hH
  replace eV := Lib.hid eV
  replace hz := Lib.hid hz
  have BS := Lib.hid hb0
  clear hA hH hb0
  have hh_ := KA.out
  obtain ⟨c0, f0⟩ := hh_.one 0 rfl
  obtain ⟨c1, f1⟩ := hh_.one 1 rfl
  obtain ⟨c2, f2⟩ := hh_.one 2 rfl
  obtain ⟨c3, f3⟩ := hh_.one 3 rfl
  obtain ⟨c4, f4⟩ := hh_.one 4 rfl
  obtain ⟨c5, f5⟩ := hh_.one 5 rfl
  obtain ⟨c6, f6⟩ := hh_.one 6 rfl
  clear hh_
  cases hR : knR A D g
  · have NW := Lib.hid (fun u => knew_no A D g hR u)
    clear hR
    go_enter Try.func10, Try.ntmps10
    go_wp2_with fail
    rw [← eV.out]
    go_wp2_with fail
    refine (NW.out _).mono ?_
    rintro e w1 ⟨rfl, hq⟩
    replace BS := Lib.hid (BS.out.trans (hq.mono BS.out.size))
    go_wp2_with (go_at_call 54; refine (lives41 _).mono ?_; rintro e w1 ⟨rfl, hb2⟩)
    go_ret
    exact ⟨rfl, BS.out.trans (hb2.mono BS.out.size)⟩
  · obtain ⟨gb, gd, ga⟩ := knR_true hR
    have ok0 := Lib.hid (kn_ok ga gd)
    have NW := Lib.hid (fun u => knew_ok A D g hR u)
    clear hR gd ga
    by_cases hbig : 60 < rows.length
    · go_enter Try.func10, Try.ntmps10
      go_wp2_with fail
      rw [← eV.out]
      go_wp2_with fail
      refine (NW.out _).mono ?_
      rintro e w1 ⟨b, hb, rfl, k1, hq⟩
      replace BS := Lib.hid (BS.out.trans (hq.mono BS.out.size))
      go_wp2_with (go_at_call 54; refine (lives41 _).mono ?_; rintro e w1 ⟨rfl, hb2⟩)
      go_ret
      exact ⟨rfl, BS.out.trans (hb2.mono BS.out.size)⟩
    · go_enter Try.func10, Try.ntmps10
      go_wp2_with fail
      rw [← eV.out]
      go_wp2_with fail
      refine (NW.out _).mono ?_
      rintro e w1 ⟨b, hb, rfl, k1, hq⟩
      have HL := Lib.hid (show w.heap.size + 2 ≤ b by have := hz.out; omega)
      have KO := Lib.hid (show Held b (KeC (KS.mk A (dgl D) 0 0).X (KS.mk A (dgl D) 0 0).P g (KS.mk A (dgl D) 0 0).tk (KS.mk A (dgl D) 0 0).rf) w1 from k1)
      replace BS := Lib.hid (BS.out.trans (hq.mono BS.out.size))
      replace KM := Lib.hid (KM.out.bel hq)
      clear hq hb k1 KA c0 c1 c2 c3 c4 c5 c6 f0 f1 f2 f3 f4 f5 f6
      generalize KS.mk A (dgl D) 0 0 = S0 at *
      go_wp2_with fail
      go_loopw [9] (fun i v => ∃ (k : Nat) (S : KS), k ≤ rows.length ∧ i = .int .i64 k ∧ Hid (KSOk k S) ∧ Hid (Held b (KeC S.X S.P g S.tk S.rf) v) ∧ Hid (Held (w.heap.size + 1) [.int .i64 (H 0), .int .i64 (H 1), .int .i64 (H 2), .int .i64 z, .int .i64 n] v) ∧ Hid (Below w.heap.size w v)) (fun i _ => rows.length - (intOf i).toNat)
      case atStart => exact ⟨0, S0, Nat.zero_le _, rfl, ok0, KO, KM, BS⟩
      case round =>
        clear ok0 KO KM BS
        obtain ⟨k, S, hk, rfl, ok, KO, KM, BS⟩ := hrel
        by_cases hlt : k < rows.length
        · obtain ⟨tb, off, bt, H', z', n', rfl, htb, hcells⟩ := op_at ht hlt
          have hcells := Lib.hid hcells
          clear ht
          obtain ⟨m0, m1, m2, m3, m4, m5⟩ := hcells.out wr BS.out
          cases bt
          · have ST := Lib.hid (kupdate b S g H' z' n' wr KO.out gb (by have := ok.out.t0; have := ok.out.t1; omega) (by have := ok.out.r0; have := ok.out.r1; omega))
            have hok := Lib.hid (kuS_ok ok.out g H' z' n')
            generalize kuS S g H' z' n' = Z at *
            go_wp2_with fail
            refine ST.out.mono ?_
            rintro e w2 ⟨rfl, k2, b2⟩
            have KZ := Lib.hid k2
            have BZ := Lib.hid (Below.beside BS.out b2 (by have := HL.out; omega))
            have KMZ := Lib.hid (KM.out.beside b2 (by have := HL.out; omega))
            clear k2 b2 ST KO BS ok m0 m1 m2 m3 m4 m5 KM
            go_wp2
            go_roundw
            case rel => exact ⟨k + 1, Z, by omega, by go_num, hok, KZ, KMZ, BZ⟩
            case measure => simp [intOf]; omega
          · have ST := Lib.hid (kpredict b S g H' wr KO.out ok.out.p.b)
            have hok := Lib.hid (kpS_ok ok.out H')
            generalize kpS S H' = Z at *
            go_wp2_with fail
            refine ST.out.mono ?_
            rintro e w2 ⟨rfl, k2, b2⟩
            have KZ := Lib.hid k2
            have BZ := Lib.hid (Below.beside BS.out b2 (by have := HL.out; omega))
            have KMZ := Lib.hid (KM.out.beside b2 (by have := HL.out; omega))
            clear k2 b2 ST KO BS ok m0 m1 m2 m3 m4 m5 KM
            go_wp2
            go_roundw
            case rel => exact ⟨k + 1, Z, by omega, by go_num, hok, KZ, KMZ, BZ⟩
            case measure => simp [intOf]; omega
        · have kb : (k : Int) ≤ 60 := by omega
          obtain ⟨SX, SP, st, sr⟩ := S
          try dsimp only at *
          have UP := Lib.hid (fun u (kk : Held b (KeC SX SP g st sr) u) => kupdate b ⟨SX, SP, st, sr⟩ g H z n u kk gb (by have := ok.out.t0; have := ok.out.t1; dsimp only at *; omega) (by have := ok.out.r0; have := ok.out.r1; dsimp only at *; omega))
          have okZ := Lib.hid (kuS_ok ok.out g H z n)
          have same0 := kuE_same ⟨SX, SP, st, sr⟩ g H z n
          generalize kuE ⟨SX, SP, st, sr⟩ g H z n = ec at *
          generalize kuS ⟨SX, SP, st, sr⟩ g H z n = Z at *
          obtain ⟨ZX, ZP, zt, zr⟩ := Z
          try dsimp only at *
          have KB := Lib.hid KM.out
          clear KM
          have hh_ := KB.out
          obtain ⟨d0, l0⟩ := hh_.one 0 rfl
          obtain ⟨d1, l1⟩ := hh_.one 1 rfl
          obtain ⟨d2, l2⟩ := hh_.one 2 rfl
          obtain ⟨d3, l3⟩ := hh_.one 3 rfl
          obtain ⟨d4, l4⟩ := hh_.one 4 rfl
          clear hh_
          go_wp2_with fail
          refine (kstate b _ _ _ _ _ _ KO.out).mono ?_
          rintro e w2 ⟨rfl, hq⟩
          replace KO := Lib.hid (KO.out.bel hq)
          replace KB := Lib.hid (KB.out.bel hq)
          replace BS := Lib.hid (BS.out.trans (hq.mono BS.out.size))
          clear hq d0 l0 d1 l1 d2 l2 d3 l3 d4 l4
          go_wp2_with fail
          refine (kdoubt b _ _ _ _ _ _ KO.out).mono ?_
          rintro e w3 ⟨rfl, hq⟩
          replace KO := Lib.hid (KO.out.bel hq)
          replace KB := Lib.hid (KB.out.bel hq)
          replace BS := Lib.hid (BS.out.trans (hq.mono BS.out.size))
          clear hq
          go_upto_region 11 with (fail)
          obtain ⟨sb, esb⟩ : ∃ sb, sb = w3.heap.size := ⟨_, rfl⟩
          have sbw : w.heap.size + 1 < sb ∧ b < sb := by rw [esb]; exact ⟨KB.out.lt, KO.out.lt⟩
          obtain ⟨sb1, sb2⟩ := sbw
          obtain ⟨w4, ew4⟩ : ∃ w4, w4 = (w3.alloc (.cells #[.int .i64 (SX 0), .int .i64 (SX 1), .int .i64 (SX 2)] 65)).alloc (.cells #[.int .i64 (SP 0), .int .i64 (SP 1), .int .i64 (SP 2), .int .i64 (SP 3), .int .i64 (SP 4), .int .i64 (SP 5), .int .i64 (SP 6), .int .i64 (SP 7), .int .i64 (SP 8)] 56) := ⟨_, rfl⟩
          have KSB := Lib.hid (show Held sb [.int .i64 (SX 0), .int .i64 (SX 1), .int .i64 (SX 2)] w4 by rw [ew4, esb]; exact (Held.new w3 [.int .i64 (SX 0), .int .i64 (SX 1), .int .i64 (SX 2)] 65).alloc _)
          have KPB := Lib.hid (show Held (sb + 1) [.int .i64 (SP 0), .int .i64 (SP 1), .int .i64 (SP 2), .int .i64 (SP 3), .int .i64 (SP 4), .int .i64 (SP 5), .int .i64 (SP 6), .int .i64 (SP 7), .int .i64 (SP 8)] w4 by rw [ew4, esb]; have := Held.new (w3.alloc (.cells #[.int .i64 (SX 0), .int .i64 (SX 1), .int .i64 (SX 2)] 65)) [.int .i64 (SP 0), .int .i64 (SP 1), .int .i64 (SP 2), .int .i64 (SP 3), .int .i64 (SP 4), .int .i64 (SP 5), .int .i64 (SP 6), .int .i64 (SP 7), .int .i64 (SP 8)] 56; simpa using this)
          have hq4 : Below w3.heap.size w3 w4 := by rw [ew4]; exact ((Below.refl _ _).alloc (Nat.le_refl _) _).alloc (by simp) _
          replace KO := Lib.hid (KO.out.bel hq4)
          replace KB := Lib.hid (KB.out.bel hq4)
          replace BS := Lib.hid (BS.out.trans (hq4.mono BS.out.size))
          clear hq4
          rw [← ew4, ← esb]
          replace ew4 := Lib.hid ew4
          replace esb := Lib.hid esb
          have hh_ := KB.out
          obtain ⟨d0, l0⟩ := hh_.one 0 rfl
          obtain ⟨d1, l1⟩ := hh_.one 1 rfl
          obtain ⟨d2, l2⟩ := hh_.one 2 rfl
          obtain ⟨d3, l3⟩ := hh_.one 3 rfl
          obtain ⟨d4, l4⟩ := hh_.one 4 rfl
          clear hh_
          go_wp2_with fail
          refine (UP.out _ KO.out).mono ?_
          rintro e w5 ⟨rfl, kz, bz⟩
          have KZ := Lib.hid kz
          replace KB := Lib.hid (KB.out.beside bz (by have := HL.out; omega))
          replace KSB := Lib.hid (KSB.out.beside bz (by omega))
          replace KPB := Lib.hid (KPB.out.beside bz (by omega))
          replace BS := Lib.hid (Below.beside BS.out bz (by have := HL.out; omega))
          clear kz bz KO UP d0 l0 d1 l1 d2 l2 d3 l3 d4 l4
          rcases same0 with rfl | ⟨hne, rfl, rfl⟩
          · have hh_ := KSB.out
            obtain ⟨x0, xf0⟩ := hh_.one 0 rfl
            obtain ⟨x1, xf1⟩ := hh_.one 1 rfl
            obtain ⟨x2, xf2⟩ := hh_.one 2 rfl
            clear hh_
            have hh_ := KPB.out
            obtain ⟨y0, yf0⟩ := hh_.one 0 rfl
            obtain ⟨y1, yf1⟩ := hh_.one 1 rfl
            obtain ⟨y2, yf2⟩ := hh_.one 2 rfl
            obtain ⟨y3, yf3⟩ := hh_.one 3 rfl
            obtain ⟨y4, yf4⟩ := hh_.one 4 rfl
            obtain ⟨y5, yf5⟩ := hh_.one 5 rfl
            obtain ⟨y6, yf6⟩ := hh_.one 6 rfl
            obtain ⟨y7, yf7⟩ := hh_.one 7 rfl
            obtain ⟨y8, yf8⟩ := hh_.one 8 rfl
            clear hh_
            go_wp2_with fail
            refine region_moves (fun u => u.cell? ⟨sb, 0, none⟩ = some (.int .i64 (SX 0)) ∧ u.cell? ⟨sb, 1, none⟩ = some (.int .i64 (SX 1)) ∧ u.cell? ⟨sb, 2, none⟩ = some (.int .i64 (SX 2)) ∧ u.cell? ⟨sb + 1, 0, none⟩ = some (.int .i64 (SP 0)) ∧ u.cell? ⟨sb + 1, 1, none⟩ = some (.int .i64 (SP 1)) ∧ u.cell? ⟨sb + 1, 2, none⟩ = some (.int .i64 (SP 2)) ∧ u.cell? ⟨sb + 1, 3, none⟩ = some (.int .i64 (SP 3)) ∧ u.cell? ⟨sb + 1, 4, none⟩ = some (.int .i64 (SP 4)) ∧ u.cell? ⟨sb + 1, 5, none⟩ = some (.int .i64 (SP 5)) ∧ u.cell? ⟨sb + 1, 6, none⟩ = some (.int .i64 (SP 6)) ∧ u.cell? ⟨sb + 1, 7, none⟩ = some (.int .i64 (SP 7)) ∧ u.cell? ⟨sb + 1, 8, none⟩ = some (.int .i64 (SP 8))) [] [(.free, 0), (.free, 1), (.free, 2), (.free, 3), (.take, 5), (.step, 4), (.free, 6), (.free, 7), (.free, 8), (.take, 10), (.step, 9), (.free, 11), (.free, 12), (.free, 13)] _ (by kernel_rfl) (by kernel_rfl) (by kernel_rfl) (by kernel_rfl) (by decide) rfl (fun _ _ _ _ _ h => h) ?_
            simp only [List.filterMap_cons, List.filterMap_nil, List.getElem?_toArray, List.getElem?_cons_zero, List.getElem?_cons_succ, Option.map_some]
            iterate 4
              first
                | (refine mv_free ?_ (Or.inl ⟨by rfl, ?_⟩) (⟨x0, x1, x2, y0, y1, y2, y3, y4, y5, y6, y7, y8⟩) ?_
                   rotate_left 1
                   · intro u
                     go_simp
                     try simp only [d1]
                     try simp only [d2]
                     try simp only [d3]
                     try with_reducible rfl
                   simp only [Act.put, List.setIfInBounds_toArray, List.set_cons_zero, List.set_cons_succ])
                | (refine mv_free _ (Or.inr ⟨by rfl, rfl⟩) (⟨x0, x1, x2, y0, y1, y2, y3, y4, y5, y6, y7, y8⟩) ?_
                   simp only [Act.put, List.setIfInBounds_toArray, List.set_cons_zero, List.set_cons_succ])
            iterate 1
              first
                | (refine mv_take ?_ (Or.inl ⟨by rfl, ?_⟩) (⟨x0, x1, x2, y0, y1, y2, y3, y4, y5, y6, y7, y8⟩) ?_
                   rotate_left 1
                   · intro u hu
                     (try dsimp only at hu)
                     go_simp
                     try with_reducible rfl
                   simp only [Act.put, List.setIfInBounds_toArray, List.set_cons_zero, List.set_cons_succ])
                | (refine mv_take _ (Or.inr ⟨by rfl, rfl⟩) (⟨x0, x1, x2, y0, y1, y2, y3, y4, y5, y6, y7, y8⟩) ?_
                   simp only [Act.put, List.setIfInBounds_toArray, List.set_cons_zero, List.set_cons_succ])
            refine mv_step (fun K hK => ?_)
            go_simp
            refine hK.out _ _ _ (fun u hu => hu) (⟨x0, x1, x2, y0, y1, y2, y3, y4, y5, y6, y7, y8⟩) ?_
            clear hK K
            iterate 3
              first
                | (refine mv_free ?_ (Or.inl ⟨by rfl, ?_⟩) (⟨x0, x1, x2, y0, y1, y2, y3, y4, y5, y6, y7, y8⟩) ?_
                   rotate_left 1
                   · intro u
                     go_simp
                     try simp only [d1]
                     try simp only [d2]
                     try simp only [d3]
                     try with_reducible rfl
                   simp only [Act.put, List.setIfInBounds_toArray, List.set_cons_zero, List.set_cons_succ])
                | (refine mv_free _ (Or.inr ⟨by rfl, rfl⟩) (⟨x0, x1, x2, y0, y1, y2, y3, y4, y5, y6, y7, y8⟩) ?_
                   simp only [Act.put, List.setIfInBounds_toArray, List.set_cons_zero, List.set_cons_succ])
            iterate 1
              first
                | (refine mv_take ?_ (Or.inl ⟨by rfl, ?_⟩) (⟨x0, x1, x2, y0, y1, y2, y3, y4, y5, y6, y7, y8⟩) ?_
                   rotate_left 1
                   · intro u hu
                     (try dsimp only at hu)
                     go_simp
                     try with_reducible rfl
                   simp only [Act.put, List.setIfInBounds_toArray, List.set_cons_zero, List.set_cons_succ])
                | (refine mv_take _ (Or.inr ⟨by rfl, rfl⟩) (⟨x0, x1, x2, y0, y1, y2, y3, y4, y5, y6, y7, y8⟩) ?_
                   simp only [Act.put, List.setIfInBounds_toArray, List.set_cons_zero, List.set_cons_succ])
            refine mv_step (fun K hK => ?_)
            go_simp
            refine hK.out _ _ _ (fun u hu => hu) (⟨x0, x1, x2, y0, y1, y2, y3, y4, y5, y6, y7, y8⟩) ?_
            clear hK K
            iterate 3
              first
                | (refine mv_free ?_ (Or.inl ⟨by rfl, ?_⟩) (⟨x0, x1, x2, y0, y1, y2, y3, y4, y5, y6, y7, y8⟩) ?_
                   rotate_left 1
                   · intro u
                     go_simp
                     try simp only [d1]
                     try simp only [d2]
                     try simp only [d3]
                     try with_reducible rfl
                   simp only [Act.put, List.setIfInBounds_toArray, List.set_cons_zero, List.set_cons_succ])
                | (refine mv_free _ (Or.inr ⟨by rfl, rfl⟩) (⟨x0, x1, x2, y0, y1, y2, y3, y4, y5, y6, y7, y8⟩) ?_
                   simp only [Act.put, List.setIfInBounds_toArray, List.set_cons_zero, List.set_cons_succ])
            refine mv_done ?_
            clear x0 xf0 x1 xf1 x2 xf2 y0 yf0 y1 yf1 y2 yf2 y3 yf3 y4 yf4 y5 yf5 y6 yf6 y7 yf7 y8 yf8
            obtain ⟨w6, ew6⟩ : ∃ w6, w6 = w5.drew := ⟨_, rfl⟩
            replace KZ := Lib.hid (show Held b (KeC ZX ZP g zt zr) w6 by rw [ew6]; exact KZ.out.drew)
            replace KB := Lib.hid (show Held (w.heap.size + 1) [.int .i64 (H 0), .int .i64 (H 1), .int .i64 (H 2), .int .i64 z, .int .i64 n] w6 by rw [ew6]; exact KB.out.drew)
            replace BS := Lib.hid (show Below w.heap.size w w6 by rw [ew6]; exact BS.out.drew)
            rw [← ew6]
            replace ew6 := Lib.hid ew6
            have EX := Lib.hid (fun u (kk : Held b (KeC ZX ZP g zt zr) u) => kexpect b ZX ZP g zt zr H z n u kk)
            have U2 := Lib.hid (fun u (kk : Held b (KeC ZX ZP g zt zr) u) => kupdate b ⟨ZX, ZP, zt, zr⟩ g H (dtI H ZX) n u kk gb (by have := okZ.out.t0; have := okZ.out.t1; dsimp only at *; omega) (by have := okZ.out.r0; have := okZ.out.r1; dsimp only at *; omega))
            have same2 := kuS_X_same ⟨ZX, ZP, zt, zr⟩ g H n okZ.out.x
            dsimp only at same2
            generalize dtI H ZX = zz at *
            generalize kuE ⟨ZX, ZP, zt, zr⟩ g H zz n = e2 at *
            generalize kuS ⟨ZX, ZP, zt, zr⟩ g H zz n = Y at *
            obtain ⟨YX, YP, yt, yr⟩ := Y
            try dsimp only at *
            clear KSB KPB
            have hh_ := KB.out
            obtain ⟨d0, l0⟩ := hh_.one 0 rfl
            obtain ⟨d1, l1⟩ := hh_.one 1 rfl
            obtain ⟨d2, l2⟩ := hh_.one 2 rfl
            obtain ⟨d3, l3⟩ := hh_.one 3 rfl
            obtain ⟨d4, l4⟩ := hh_.one 4 rfl
            clear hh_
            go_wp2_with fail
            refine (EX.out _ KZ.out).mono ?_
            rintro e w7 ⟨rfl, hq⟩
            replace KZ := Lib.hid (KZ.out.bel hq)
            replace KB := Lib.hid (KB.out.bel hq)
            replace BS := Lib.hid (BS.out.trans (hq.mono BS.out.size))
            clear hq EX d0 l0 d1 l1 d2 l2 d3 l3 d4 l4
            go_wp2_with fail
            refine (kstate b _ _ _ _ _ _ KZ.out).mono ?_
            rintro e w8 ⟨rfl, hq⟩
            replace KZ := Lib.hid (KZ.out.bel hq)
            replace KB := Lib.hid (KB.out.bel hq)
            replace BS := Lib.hid (BS.out.trans (hq.mono BS.out.size))
            clear hq
            go_upto_region 16 with (fail)
            obtain ⟨wb, ewb⟩ : ∃ wb, wb = w8.heap.size := ⟨_, rfl⟩
            have wb1 : w.heap.size + 1 < wb := by rw [ewb]; exact KB.out.lt
            have wb2 : b < wb := by rw [ewb]; exact KZ.out.lt
            obtain ⟨w9, ew9⟩ : ∃ w9, w9 = w8.alloc (.cells #[.int .i64 (ZX 0), .int .i64 (ZX 1), .int .i64 (ZX 2)] 65) := ⟨_, rfl⟩
            have KW := Lib.hid (show Held wb [.int .i64 (ZX 0), .int .i64 (ZX 1), .int .i64 (ZX 2)] w9 by rw [ew9, ewb]; exact Held.new w8 [.int .i64 (ZX 0), .int .i64 (ZX 1), .int .i64 (ZX 2)] 65)
            have hq4 : Below w8.heap.size w8 w9 := by rw [ew9]; exact (Below.refl _ _).alloc (Nat.le_refl _) _
            replace KZ := Lib.hid (KZ.out.bel hq4)
            replace KB := Lib.hid (KB.out.bel hq4)
            replace BS := Lib.hid (BS.out.trans (hq4.mono BS.out.size))
            clear hq4
            rw [← ew9, ← ewb]
            replace ew9 := Lib.hid ew9
            replace ewb := Lib.hid ewb
            have c3 := KB.out.c 3 _ rfl
            have f3 := KB.out.f 3 (by simp)
            go_upto_region 17 with (fail)
            obtain ⟨w10, ew10⟩ : ∃ w10, w10 = w9.setCell ⟨w.heap.size + 1, 3, none⟩ (.int .i64 zz) := ⟨_, rfl⟩
            obtain ⟨k10, b10⟩ := (((HB.start KB.out).set 3 (.int .i64 zz) (by simp)).is (show _ = [.int .i64 (H 0), .int .i64 (H 1), .int .i64 (H 2), .int .i64 zz, .int .i64 n] from rfl)).fin (v' := w10) (by rw [ew10]) (by rw [ew10]) (by rw [ew10]) (by rw [ew10])
            rw [← ew10]
            replace ew10 := Lib.hid ew10
            replace KZ := Lib.hid (KZ.out.beside b10 (by have := HL.out; omega))
            replace KW := Lib.hid (KW.out.beside b10 (by omega))
            replace BS := Lib.hid (Below.beside BS.out b10 (by omega))
            have KB2 := Lib.hid k10
            clear k10 b10 KB c3 f3
            have hh_ := KB2.out
            obtain ⟨d0, l0⟩ := hh_.one 0 rfl
            obtain ⟨d1, l1⟩ := hh_.one 1 rfl
            obtain ⟨d2, l2⟩ := hh_.one 2 rfl
            obtain ⟨d3, l3⟩ := hh_.one 3 rfl
            obtain ⟨d4, l4⟩ := hh_.one 4 rfl
            clear hh_
            go_wp2_with fail
            refine (U2.out _ KZ.out).mono ?_
            rintro e w11 ⟨rfl, ky, b11⟩
            have KY := Lib.hid ky
            replace KW := Lib.hid (KW.out.beside b11 (by omega))
            replace BS := Lib.hid (Below.beside BS.out b11 (by have := HL.out; omega))
            clear ky b11 KZ U2 d0 l0 d1 l1 d2 l2 d3 l3 d4 l4
            rcases same2 with e0 | ⟨rfl, e1⟩
            · have e00 : (e2 != 0) = true := bne_iff_ne.2 e0
              replace e0 := Lib.hid e0
              have hh_ := KW.out
              obtain ⟨x0, xf0⟩ := hh_.one 0 rfl
              obtain ⟨x1, xf1⟩ := hh_.one 1 rfl
              obtain ⟨x2, xf2⟩ := hh_.one 2 rfl
              clear hh_
              go_wp2_with fail
              refine region_moves (fun u => u.cell? ⟨wb, 0, none⟩ = some (.int .i64 (ZX 0)) ∧ u.cell? ⟨wb, 1, none⟩ = some (.int .i64 (ZX 1)) ∧ u.cell? ⟨wb, 2, none⟩ = some (.int .i64 (ZX 2))) [] [(.free, 0), (.free, 1), (.free, 2), (.free, 3), (.free, 4), (.free, 5), (.take, 7), (.step, 6), (.free, 8), (.free, 9), (.free, 10), (.free, 11), (.step, 12), (.free, 13), (.free, 14)] _ (by kernel_rfl) (by kernel_rfl) (by kernel_rfl) (by kernel_rfl) (by decide) rfl (fun _ _ _ _ _ h => h) ?_
              simp only [List.filterMap_cons, List.filterMap_nil, List.getElem?_toArray, List.getElem?_cons_zero, List.getElem?_cons_succ, Option.map_some]
              iterate 6
                first
                  | (refine mv_free ?_ (Or.inl ⟨by rfl, ?_⟩) (⟨x0, x1, x2⟩) ?_
                     rotate_left 1
                     · intro u
                       go_simp
                       try simp only [d1]
                       try simp only [d2]
                       try simp only [d3]
                       try with_reducible rfl
                     simp only [Act.put, List.setIfInBounds_toArray, List.set_cons_zero, List.set_cons_succ])
                  | (refine mv_free _ (Or.inr ⟨by rfl, rfl⟩) (⟨x0, x1, x2⟩) ?_
                     simp only [Act.put, List.setIfInBounds_toArray, List.set_cons_zero, List.set_cons_succ])
              iterate 1
                first
                  | (refine mv_take ?_ (Or.inl ⟨by rfl, ?_⟩) (⟨x0, x1, x2⟩) ?_
                     rotate_left 1
                     · intro u hu
                       (try dsimp only at hu)
                       go_simp
                       try with_reducible rfl
                     simp only [Act.put, List.setIfInBounds_toArray, List.set_cons_zero, List.set_cons_succ])
                  | (refine mv_take _ (Or.inr ⟨by rfl, rfl⟩) (⟨x0, x1, x2⟩) ?_
                     simp only [Act.put, List.setIfInBounds_toArray, List.set_cons_zero, List.set_cons_succ])
              refine mv_step (fun K hK => ?_)
              go_simp
              refine hK.out _ _ _ (fun u hu => hu) (⟨x0, x1, x2⟩) ?_
              clear hK K
              iterate 4
                first
                  | (refine mv_free ?_ (Or.inl ⟨by rfl, ?_⟩) (⟨x0, x1, x2⟩) ?_
                     rotate_left 1
                     · intro u
                       go_simp
                       try simp only [d1]
                       try simp only [d2]
                       try simp only [d3]
                       try with_reducible rfl
                     simp only [Act.put, List.setIfInBounds_toArray, List.set_cons_zero, List.set_cons_succ])
                  | (refine mv_free _ (Or.inr ⟨by rfl, rfl⟩) (⟨x0, x1, x2⟩) ?_
                     simp only [Act.put, List.setIfInBounds_toArray, List.set_cons_zero, List.set_cons_succ])
              refine mv_step (fun K hK => ?_)
              go_simp
              refine (lives41 _).mono ?_
              rintro e w13 ⟨rfl, hq⟩
              replace KW := Lib.hid (KW.out.drew.bel hq)
              replace BS := Lib.hid (BS.out.drew.trans (hq.mono BS.out.size))
              clear hq
              clear x0 x1 x2 xf0 xf1 xf2
              have hh_ := KW.out
              obtain ⟨x0, xf0⟩ := hh_.one 0 rfl
              obtain ⟨x1, xf1⟩ := hh_.one 1 rfl
              obtain ⟨x2, xf2⟩ := hh_.one 2 rfl
              clear hh_
              go_wp2_with fail
              refine hK.out _ _ _ (fun u hu => hu) (⟨x0, x1, x2⟩) ?_
              clear hK K
              iterate 2
                first
                  | (refine mv_free ?_ (Or.inl ⟨by rfl, ?_⟩) (⟨x0, x1, x2⟩) ?_
                     rotate_left 1
                     · intro u
                       go_simp
                       try simp only [d1]
                       try simp only [d2]
                       try simp only [d3]
                       try with_reducible rfl
                     simp only [Act.put, List.setIfInBounds_toArray, List.set_cons_zero, List.set_cons_succ])
                  | (refine mv_free _ (Or.inr ⟨by rfl, rfl⟩) (⟨x0, x1, x2⟩) ?_
                     simp only [Act.put, List.setIfInBounds_toArray, List.set_cons_zero, List.set_cons_succ])
              refine mv_done ?_
              go_wp2
              go_ret
              exact ⟨rfl, BS.out⟩
            · have KY2 := Lib.hid (show Held b (KeC ZX YP g yt yr) w11 from KeC_eq g yt yr e1 (fun _ _ => rfl) ▸ KY.out)
              replace e1 := Lib.hid e1
              have EQ := fun u => veq (ZX 0) (ZX 1) (ZX 2) u
              have hh_ := KW.out
              obtain ⟨x0, xf0⟩ := hh_.one 0 rfl
              obtain ⟨x1, xf1⟩ := hh_.one 1 rfl
              obtain ⟨x2, xf2⟩ := hh_.one 2 rfl
              clear hh_
              go_wp2_with fail
              refine region_moves (fun u => u.cell? ⟨wb, 0, none⟩ = some (.int .i64 (ZX 0)) ∧ u.cell? ⟨wb, 1, none⟩ = some (.int .i64 (ZX 1)) ∧ u.cell? ⟨wb, 2, none⟩ = some (.int .i64 (ZX 2))) [] [(.free, 0), (.free, 1), (.free, 2), (.free, 3), (.free, 4), (.free, 5), (.take, 7), (.step, 6), (.free, 8), (.free, 9), (.free, 10), (.free, 11), (.step, 12), (.free, 13), (.free, 14)] _ (by kernel_rfl) (by kernel_rfl) (by kernel_rfl) (by kernel_rfl) (by decide) rfl (fun _ _ _ _ _ h => h) ?_
              simp only [List.filterMap_cons, List.filterMap_nil, List.getElem?_toArray, List.getElem?_cons_zero, List.getElem?_cons_succ, Option.map_some]
              iterate 6
                first
                  | (refine mv_free ?_ (Or.inl ⟨by rfl, ?_⟩) (⟨x0, x1, x2⟩) ?_
                     rotate_left 1
                     · intro u
                       go_simp
                       try simp only [d1]
                       try simp only [d2]
                       try simp only [d3]
                       try with_reducible rfl
                     simp only [Act.put, List.setIfInBounds_toArray, List.set_cons_zero, List.set_cons_succ])
                  | (refine mv_free _ (Or.inr ⟨by rfl, rfl⟩) (⟨x0, x1, x2⟩) ?_
                     simp only [Act.put, List.setIfInBounds_toArray, List.set_cons_zero, List.set_cons_succ])
              iterate 1
                first
                  | (refine mv_take ?_ (Or.inl ⟨by rfl, ?_⟩) (⟨x0, x1, x2⟩) ?_
                     rotate_left 1
                     · intro u hu
                       (try dsimp only at hu)
                       go_simp
                       try with_reducible rfl
                     simp only [Act.put, List.setIfInBounds_toArray, List.set_cons_zero, List.set_cons_succ])
                  | (refine mv_take _ (Or.inr ⟨by rfl, rfl⟩) (⟨x0, x1, x2⟩) ?_
                     simp only [Act.put, List.setIfInBounds_toArray, List.set_cons_zero, List.set_cons_succ])
              refine mv_step (fun K hK => ?_)
              go_simp
              refine (kstate b _ _ _ _ _ _ KY2.out.drew).mono ?_
              rintro e w12 ⟨rfl, hq⟩
              replace KW := Lib.hid (KW.out.drew.bel hq)
              replace BS := Lib.hid (BS.out.drew.trans (hq.mono BS.out.size))
              clear hq
              clear x0 x1 x2 xf0 xf1 xf2
              have hh_ := KW.out
              obtain ⟨x0, xf0⟩ := hh_.one 0 rfl
              obtain ⟨x1, xf1⟩ := hh_.one 1 rfl
              obtain ⟨x2, xf2⟩ := hh_.one 2 rfl
              clear hh_
              go_wp2_with fail
              refine hK.out _ _ _ (fun u hu => hu) (⟨x0, x1, x2⟩) ?_
              clear hK K
              iterate 4
                first
                  | (refine mv_free ?_ (Or.inl ⟨by rfl, ?_⟩) (⟨x0, x1, x2⟩) ?_
                     rotate_left 1
                     · intro u
                       go_simp
                       try simp only [d1]
                       try simp only [d2]
                       try simp only [d3]
                       try with_reducible rfl
                     simp only [Act.put, List.setIfInBounds_toArray, List.set_cons_zero, List.set_cons_succ])
                  | (refine mv_free _ (Or.inr ⟨by rfl, rfl⟩) (⟨x0, x1, x2⟩) ?_
                     simp only [Act.put, List.setIfInBounds_toArray, List.set_cons_zero, List.set_cons_succ])
              refine mv_step (fun K hK => ?_)
              go_simp
              refine (lives41 _).mono ?_
              rintro e w13 ⟨rfl, hq⟩
              replace KW := Lib.hid (KW.out.bel hq)
              replace BS := Lib.hid (BS.out.trans (hq.mono BS.out.size))
              clear hq
              clear x0 x1 x2 xf0 xf1 xf2
              have hh_ := KW.out
              obtain ⟨x0, xf0⟩ := hh_.one 0 rfl
              obtain ⟨x1, xf1⟩ := hh_.one 1 rfl
              obtain ⟨x2, xf2⟩ := hh_.one 2 rfl
              clear hh_
              go_wp2_with fail
              refine hK.out _ _ _ (fun u hu => hu) (⟨x0, x1, x2⟩) ?_
              clear hK K
              iterate 2
                first
                  | (refine mv_free ?_ (Or.inl ⟨by rfl, ?_⟩) (⟨x0, x1, x2⟩) ?_
                     rotate_left 1
                     · intro u
                       go_simp
                       try simp only [d1]
                       try simp only [d2]
                       try simp only [d3]
                       try with_reducible rfl
                     simp only [Act.put, List.setIfInBounds_toArray, List.set_cons_zero, List.set_cons_succ])
                  | (refine mv_free _ (Or.inr ⟨by rfl, rfl⟩) (⟨x0, x1, x2⟩) ?_
                     simp only [Act.put, List.setIfInBounds_toArray, List.set_cons_zero, List.set_cons_succ])
              refine mv_done ?_
              go_wp2
              go_ret
              exact ⟨rfl, BS.out⟩
          · have hne2 : (ec != 0) = true := bne_iff_ne.2 hne
            replace hne := Lib.hid hne
            have EQ1 := fun u => veq (ZX 0) (ZX 1) (ZX 2) u
            have EQ2 := fun u => meq (ZP 0) (ZP 1) (ZP 2) (ZP 3) (ZP 4) (ZP 5) (ZP 6) (ZP 7) (ZP 8) u
            have hh_ := KSB.out
            obtain ⟨x0, xf0⟩ := hh_.one 0 rfl
            obtain ⟨x1, xf1⟩ := hh_.one 1 rfl
            obtain ⟨x2, xf2⟩ := hh_.one 2 rfl
            clear hh_
            have hh_ := KPB.out
            obtain ⟨y0, yf0⟩ := hh_.one 0 rfl
            obtain ⟨y1, yf1⟩ := hh_.one 1 rfl
            obtain ⟨y2, yf2⟩ := hh_.one 2 rfl
            obtain ⟨y3, yf3⟩ := hh_.one 3 rfl
            obtain ⟨y4, yf4⟩ := hh_.one 4 rfl
            obtain ⟨y5, yf5⟩ := hh_.one 5 rfl
            obtain ⟨y6, yf6⟩ := hh_.one 6 rfl
            obtain ⟨y7, yf7⟩ := hh_.one 7 rfl
            obtain ⟨y8, yf8⟩ := hh_.one 8 rfl
            clear hh_
            go_wp2_with fail
            refine region_moves (fun u => u.cell? ⟨sb, 0, none⟩ = some (.int .i64 (ZX 0)) ∧ u.cell? ⟨sb, 1, none⟩ = some (.int .i64 (ZX 1)) ∧ u.cell? ⟨sb, 2, none⟩ = some (.int .i64 (ZX 2)) ∧ u.cell? ⟨sb + 1, 0, none⟩ = some (.int .i64 (ZP 0)) ∧ u.cell? ⟨sb + 1, 1, none⟩ = some (.int .i64 (ZP 1)) ∧ u.cell? ⟨sb + 1, 2, none⟩ = some (.int .i64 (ZP 2)) ∧ u.cell? ⟨sb + 1, 3, none⟩ = some (.int .i64 (ZP 3)) ∧ u.cell? ⟨sb + 1, 4, none⟩ = some (.int .i64 (ZP 4)) ∧ u.cell? ⟨sb + 1, 5, none⟩ = some (.int .i64 (ZP 5)) ∧ u.cell? ⟨sb + 1, 6, none⟩ = some (.int .i64 (ZP 6)) ∧ u.cell? ⟨sb + 1, 7, none⟩ = some (.int .i64 (ZP 7)) ∧ u.cell? ⟨sb + 1, 8, none⟩ = some (.int .i64 (ZP 8))) [] [(.free, 0), (.free, 1), (.free, 2), (.free, 3), (.take, 5), (.step, 4), (.free, 6), (.free, 7), (.free, 8), (.take, 10), (.step, 9), (.free, 11), (.free, 12), (.free, 13)] _ (by kernel_rfl) (by kernel_rfl) (by kernel_rfl) (by kernel_rfl) (by decide) rfl (fun _ _ _ _ _ h => h) ?_
            simp only [List.filterMap_cons, List.filterMap_nil, List.getElem?_toArray, List.getElem?_cons_zero, List.getElem?_cons_succ, Option.map_some]
            iterate 4
              first
                | (refine mv_free ?_ (Or.inl ⟨by rfl, ?_⟩) (⟨x0, x1, x2, y0, y1, y2, y3, y4, y5, y6, y7, y8⟩) ?_
                   rotate_left 1
                   · intro u
                     go_simp
                     try simp only [d1]
                     try simp only [d2]
                     try simp only [d3]
                     try with_reducible rfl
                   simp only [Act.put, List.setIfInBounds_toArray, List.set_cons_zero, List.set_cons_succ])
                | (refine mv_free _ (Or.inr ⟨by rfl, rfl⟩) (⟨x0, x1, x2, y0, y1, y2, y3, y4, y5, y6, y7, y8⟩) ?_
                   simp only [Act.put, List.setIfInBounds_toArray, List.set_cons_zero, List.set_cons_succ])
            iterate 1
              first
                | (refine mv_take ?_ (Or.inl ⟨by rfl, ?_⟩) (⟨x0, x1, x2, y0, y1, y2, y3, y4, y5, y6, y7, y8⟩) ?_
                   rotate_left 1
                   · intro u hu
                     (try dsimp only at hu)
                     go_simp
                     try with_reducible rfl
                   simp only [Act.put, List.setIfInBounds_toArray, List.set_cons_zero, List.set_cons_succ])
                | (refine mv_take _ (Or.inr ⟨by rfl, rfl⟩) (⟨x0, x1, x2, y0, y1, y2, y3, y4, y5, y6, y7, y8⟩) ?_
                   simp only [Act.put, List.setIfInBounds_toArray, List.set_cons_zero, List.set_cons_succ])
            refine mv_step (fun K hK => ?_)
            go_simp
            refine (kstate b _ _ _ _ _ _ KZ.out.drew).mono ?_
            rintro e w6 ⟨rfl, hq⟩
            replace KZ := Lib.hid (KZ.out.drew.bel hq)
            replace KB := Lib.hid (KB.out.drew.bel hq)
            replace KSB := Lib.hid (KSB.out.drew.bel hq)
            replace KPB := Lib.hid (KPB.out.drew.bel hq)
            replace BS := Lib.hid (BS.out.drew.trans (hq.mono BS.out.size))
            clear hq
            clear x0 xf0 x1 xf1 x2 xf2 y0 yf0 y1 yf1 y2 yf2 y3 yf3 y4 yf4 y5 yf5 y6 yf6 y7 yf7 y8 yf8
            have hh_ := KSB.out
            obtain ⟨x0, xf0⟩ := hh_.one 0 rfl
            obtain ⟨x1, xf1⟩ := hh_.one 1 rfl
            obtain ⟨x2, xf2⟩ := hh_.one 2 rfl
            clear hh_
            have hh_ := KPB.out
            obtain ⟨y0, yf0⟩ := hh_.one 0 rfl
            obtain ⟨y1, yf1⟩ := hh_.one 1 rfl
            obtain ⟨y2, yf2⟩ := hh_.one 2 rfl
            obtain ⟨y3, yf3⟩ := hh_.one 3 rfl
            obtain ⟨y4, yf4⟩ := hh_.one 4 rfl
            obtain ⟨y5, yf5⟩ := hh_.one 5 rfl
            obtain ⟨y6, yf6⟩ := hh_.one 6 rfl
            obtain ⟨y7, yf7⟩ := hh_.one 7 rfl
            obtain ⟨y8, yf8⟩ := hh_.one 8 rfl
            clear hh_
            go_wp2_with fail
            refine hK.out _ _ _ (fun u hu => hu) (⟨x0, x1, x2, y0, y1, y2, y3, y4, y5, y6, y7, y8⟩) ?_
            clear hK K
            iterate 3
              first
                | (refine mv_free ?_ (Or.inl ⟨by rfl, ?_⟩) (⟨x0, x1, x2, y0, y1, y2, y3, y4, y5, y6, y7, y8⟩) ?_
                   rotate_left 1
                   · intro u
                     go_simp
                     try simp only [d1]
                     try simp only [d2]
                     try simp only [d3]
                     try with_reducible rfl
                   simp only [Act.put, List.setIfInBounds_toArray, List.set_cons_zero, List.set_cons_succ])
                | (refine mv_free _ (Or.inr ⟨by rfl, rfl⟩) (⟨x0, x1, x2, y0, y1, y2, y3, y4, y5, y6, y7, y8⟩) ?_
                   simp only [Act.put, List.setIfInBounds_toArray, List.set_cons_zero, List.set_cons_succ])
            iterate 1
              first
                | (refine mv_take ?_ (Or.inl ⟨by rfl, ?_⟩) (⟨x0, x1, x2, y0, y1, y2, y3, y4, y5, y6, y7, y8⟩) ?_
                   rotate_left 1
                   · intro u hu
                     (try dsimp only at hu)
                     go_simp
                     try with_reducible rfl
                   simp only [Act.put, List.setIfInBounds_toArray, List.set_cons_zero, List.set_cons_succ])
                | (refine mv_take _ (Or.inr ⟨by rfl, rfl⟩) (⟨x0, x1, x2, y0, y1, y2, y3, y4, y5, y6, y7, y8⟩) ?_
                   simp only [Act.put, List.setIfInBounds_toArray, List.set_cons_zero, List.set_cons_succ])
            refine mv_step (fun K hK => ?_)
            go_simp
            refine (kdoubt b _ _ _ _ _ _ KZ.out).mono ?_
            rintro e w6b ⟨rfl, hq⟩
            replace KZ := Lib.hid (KZ.out.bel hq)
            replace KB := Lib.hid (KB.out.bel hq)
            replace KSB := Lib.hid (KSB.out.bel hq)
            replace KPB := Lib.hid (KPB.out.bel hq)
            replace BS := Lib.hid (BS.out.trans (hq.mono BS.out.size))
            clear hq
            clear x0 xf0 x1 xf1 x2 xf2 y0 yf0 y1 yf1 y2 yf2 y3 yf3 y4 yf4 y5 yf5 y6 yf6 y7 yf7 y8 yf8
            have hh_ := KSB.out
            obtain ⟨x0, xf0⟩ := hh_.one 0 rfl
            obtain ⟨x1, xf1⟩ := hh_.one 1 rfl
            obtain ⟨x2, xf2⟩ := hh_.one 2 rfl
            clear hh_
            have hh_ := KPB.out
            obtain ⟨y0, yf0⟩ := hh_.one 0 rfl
            obtain ⟨y1, yf1⟩ := hh_.one 1 rfl
            obtain ⟨y2, yf2⟩ := hh_.one 2 rfl
            obtain ⟨y3, yf3⟩ := hh_.one 3 rfl
            obtain ⟨y4, yf4⟩ := hh_.one 4 rfl
            obtain ⟨y5, yf5⟩ := hh_.one 5 rfl
            obtain ⟨y6, yf6⟩ := hh_.one 6 rfl
            obtain ⟨y7, yf7⟩ := hh_.one 7 rfl
            obtain ⟨y8, yf8⟩ := hh_.one 8 rfl
            clear hh_
            go_wp2_with fail
            refine hK.out _ _ _ (fun u hu => hu) (⟨x0, x1, x2, y0, y1, y2, y3, y4, y5, y6, y7, y8⟩) ?_
            clear hK K
            iterate 3
              first
                | (refine mv_free ?_ (Or.inl ⟨by rfl, ?_⟩) (⟨x0, x1, x2, y0, y1, y2, y3, y4, y5, y6, y7, y8⟩) ?_
                   rotate_left 1
                   · intro u
                     go_simp
                     try simp only [d1]
                     try simp only [d2]
                     try simp only [d3]
                     try with_reducible rfl
                   simp only [Act.put, List.setIfInBounds_toArray, List.set_cons_zero, List.set_cons_succ])
                | (refine mv_free _ (Or.inr ⟨by rfl, rfl⟩) (⟨x0, x1, x2, y0, y1, y2, y3, y4, y5, y6, y7, y8⟩) ?_
                   simp only [Act.put, List.setIfInBounds_toArray, List.set_cons_zero, List.set_cons_succ])
            refine mv_done ?_
            clear x0 xf0 x1 xf1 x2 xf2 y0 yf0 y1 yf1 y2 yf2 y3 yf3 y4 yf4 y5 yf5 y6 yf6 y7 yf7 y8 yf8
            have EX := Lib.hid (fun u (kk : Held b (KeC ZX ZP g zt zr) u) => kexpect b ZX ZP g zt zr H z n u kk)
            have U2 := Lib.hid (fun u (kk : Held b (KeC ZX ZP g zt zr) u) => kupdate b ⟨ZX, ZP, zt, zr⟩ g H (dtI H ZX) n u kk gb (by have := okZ.out.t0; have := okZ.out.t1; dsimp only at *; omega) (by have := okZ.out.r0; have := okZ.out.r1; dsimp only at *; omega))
            have same2 := kuS_X_same ⟨ZX, ZP, zt, zr⟩ g H n okZ.out.x
            dsimp only at same2
            generalize dtI H ZX = zz at *
            generalize kuE ⟨ZX, ZP, zt, zr⟩ g H zz n = e2 at *
            generalize kuS ⟨ZX, ZP, zt, zr⟩ g H zz n = Y at *
            obtain ⟨YX, YP, yt, yr⟩ := Y
            try dsimp only at *
            clear KSB KPB
            have hh_ := KB.out
            obtain ⟨d0, l0⟩ := hh_.one 0 rfl
            obtain ⟨d1, l1⟩ := hh_.one 1 rfl
            obtain ⟨d2, l2⟩ := hh_.one 2 rfl
            obtain ⟨d3, l3⟩ := hh_.one 3 rfl
            obtain ⟨d4, l4⟩ := hh_.one 4 rfl
            clear hh_
            go_wp2_with fail
            refine (EX.out _ KZ.out).mono ?_
            rintro e w7 ⟨rfl, hq⟩
            replace KZ := Lib.hid (KZ.out.bel hq)
            replace KB := Lib.hid (KB.out.bel hq)
            replace BS := Lib.hid (BS.out.trans (hq.mono BS.out.size))
            clear hq EX d0 l0 d1 l1 d2 l2 d3 l3 d4 l4
            go_wp2_with fail
            refine (kstate b _ _ _ _ _ _ KZ.out).mono ?_
            rintro e w8 ⟨rfl, hq⟩
            replace KZ := Lib.hid (KZ.out.bel hq)
            replace KB := Lib.hid (KB.out.bel hq)
            replace BS := Lib.hid (BS.out.trans (hq.mono BS.out.size))
            clear hq
            go_upto_region 16 with (fail)
            obtain ⟨wb, ewb⟩ : ∃ wb, wb = w8.heap.size := ⟨_, rfl⟩
            have wb1 : w.heap.size + 1 < wb := by rw [ewb]; exact KB.out.lt
            have wb2 : b < wb := by rw [ewb]; exact KZ.out.lt
            obtain ⟨w9, ew9⟩ : ∃ w9, w9 = w8.alloc (.cells #[.int .i64 (ZX 0), .int .i64 (ZX 1), .int .i64 (ZX 2)] 65) := ⟨_, rfl⟩
            have KW := Lib.hid (show Held wb [.int .i64 (ZX 0), .int .i64 (ZX 1), .int .i64 (ZX 2)] w9 by rw [ew9, ewb]; exact Held.new w8 [.int .i64 (ZX 0), .int .i64 (ZX 1), .int .i64 (ZX 2)] 65)
            have hq4 : Below w8.heap.size w8 w9 := by rw [ew9]; exact (Below.refl _ _).alloc (Nat.le_refl _) _
            replace KZ := Lib.hid (KZ.out.bel hq4)
            replace KB := Lib.hid (KB.out.bel hq4)
            replace BS := Lib.hid (BS.out.trans (hq4.mono BS.out.size))
            clear hq4
            rw [← ew9, ← ewb]
            replace ew9 := Lib.hid ew9
            replace ewb := Lib.hid ewb
            have c3 := KB.out.c 3 _ rfl
            have f3 := KB.out.f 3 (by simp)
            go_upto_region 17 with (fail)
            obtain ⟨w10, ew10⟩ : ∃ w10, w10 = w9.setCell ⟨w.heap.size + 1, 3, none⟩ (.int .i64 zz) := ⟨_, rfl⟩
            obtain ⟨k10, b10⟩ := (((HB.start KB.out).set 3 (.int .i64 zz) (by simp)).is (show _ = [.int .i64 (H 0), .int .i64 (H 1), .int .i64 (H 2), .int .i64 zz, .int .i64 n] from rfl)).fin (v' := w10) (by rw [ew10]) (by rw [ew10]) (by rw [ew10]) (by rw [ew10])
            rw [← ew10]
            replace ew10 := Lib.hid ew10
            replace KZ := Lib.hid (KZ.out.beside b10 (by have := HL.out; omega))
            replace KW := Lib.hid (KW.out.beside b10 (by omega))
            replace BS := Lib.hid (Below.beside BS.out b10 (by omega))
            have KB2 := Lib.hid k10
            clear k10 b10 KB c3 f3
            have hh_ := KB2.out
            obtain ⟨d0, l0⟩ := hh_.one 0 rfl
            obtain ⟨d1, l1⟩ := hh_.one 1 rfl
            obtain ⟨d2, l2⟩ := hh_.one 2 rfl
            obtain ⟨d3, l3⟩ := hh_.one 3 rfl
            obtain ⟨d4, l4⟩ := hh_.one 4 rfl
            clear hh_
            go_wp2_with fail
            refine (U2.out _ KZ.out).mono ?_
            rintro e w11 ⟨rfl, ky, b11⟩
            have KY := Lib.hid ky
            replace KW := Lib.hid (KW.out.beside b11 (by omega))
            replace BS := Lib.hid (Below.beside BS.out b11 (by have := HL.out; omega))
            clear ky b11 KZ U2 d0 l0 d1 l1 d2 l2 d3 l3 d4 l4
            rcases same2 with e0 | ⟨rfl, e1⟩
            · have e00 : (e2 != 0) = true := bne_iff_ne.2 e0
              replace e0 := Lib.hid e0
              have hh_ := KW.out
              obtain ⟨x0, xf0⟩ := hh_.one 0 rfl
              obtain ⟨x1, xf1⟩ := hh_.one 1 rfl
              obtain ⟨x2, xf2⟩ := hh_.one 2 rfl
              clear hh_
              go_wp2_with fail
              refine region_moves (fun u => u.cell? ⟨wb, 0, none⟩ = some (.int .i64 (ZX 0)) ∧ u.cell? ⟨wb, 1, none⟩ = some (.int .i64 (ZX 1)) ∧ u.cell? ⟨wb, 2, none⟩ = some (.int .i64 (ZX 2))) [] [(.free, 0), (.free, 1), (.free, 2), (.free, 3), (.free, 4), (.free, 5), (.take, 7), (.step, 6), (.free, 8), (.free, 9), (.free, 10), (.free, 11), (.step, 12), (.free, 13), (.free, 14)] _ (by kernel_rfl) (by kernel_rfl) (by kernel_rfl) (by kernel_rfl) (by decide) rfl (fun _ _ _ _ _ h => h) ?_
              simp only [List.filterMap_cons, List.filterMap_nil, List.getElem?_toArray, List.getElem?_cons_zero, List.getElem?_cons_succ, Option.map_some]
              iterate 6
                first
                  | (refine mv_free ?_ (Or.inl ⟨by rfl, ?_⟩) (⟨x0, x1, x2⟩) ?_
                     rotate_left 1
                     · intro u
                       go_simp
                       try simp only [d1]
                       try simp only [d2]
                       try simp only [d3]
                       try with_reducible rfl
                     simp only [Act.put, List.setIfInBounds_toArray, List.set_cons_zero, List.set_cons_succ])
                  | (refine mv_free _ (Or.inr ⟨by rfl, rfl⟩) (⟨x0, x1, x2⟩) ?_
                     simp only [Act.put, List.setIfInBounds_toArray, List.set_cons_zero, List.set_cons_succ])
              iterate 1
                first
                  | (refine mv_take ?_ (Or.inl ⟨by rfl, ?_⟩) (⟨x0, x1, x2⟩) ?_
                     rotate_left 1
                     · intro u hu
                       (try dsimp only at hu)
                       go_simp
                       try with_reducible rfl
                     simp only [Act.put, List.setIfInBounds_toArray, List.set_cons_zero, List.set_cons_succ])
                  | (refine mv_take _ (Or.inr ⟨by rfl, rfl⟩) (⟨x0, x1, x2⟩) ?_
                     simp only [Act.put, List.setIfInBounds_toArray, List.set_cons_zero, List.set_cons_succ])
              refine mv_step (fun K hK => ?_)
              go_simp
              refine hK.out _ _ _ (fun u hu => hu) (⟨x0, x1, x2⟩) ?_
              clear hK K
              iterate 4
                first
                  | (refine mv_free ?_ (Or.inl ⟨by rfl, ?_⟩) (⟨x0, x1, x2⟩) ?_
                     rotate_left 1
                     · intro u
                       go_simp
                       try simp only [d1]
                       try simp only [d2]
                       try simp only [d3]
                       try with_reducible rfl
                     simp only [Act.put, List.setIfInBounds_toArray, List.set_cons_zero, List.set_cons_succ])
                  | (refine mv_free _ (Or.inr ⟨by rfl, rfl⟩) (⟨x0, x1, x2⟩) ?_
                     simp only [Act.put, List.setIfInBounds_toArray, List.set_cons_zero, List.set_cons_succ])
              refine mv_step (fun K hK => ?_)
              go_simp
              refine (lives41 _).mono ?_
              rintro e w13 ⟨rfl, hq⟩
              replace KW := Lib.hid (KW.out.drew.bel hq)
              replace BS := Lib.hid (BS.out.drew.trans (hq.mono BS.out.size))
              clear hq
              clear x0 x1 x2 xf0 xf1 xf2
              have hh_ := KW.out
              obtain ⟨x0, xf0⟩ := hh_.one 0 rfl
              obtain ⟨x1, xf1⟩ := hh_.one 1 rfl
              obtain ⟨x2, xf2⟩ := hh_.one 2 rfl
              clear hh_
              go_wp2_with fail
              refine hK.out _ _ _ (fun u hu => hu) (⟨x0, x1, x2⟩) ?_
              clear hK K
              iterate 2
                first
                  | (refine mv_free ?_ (Or.inl ⟨by rfl, ?_⟩) (⟨x0, x1, x2⟩) ?_
                     rotate_left 1
                     · intro u
                       go_simp
                       try simp only [d1]
                       try simp only [d2]
                       try simp only [d3]
                       try with_reducible rfl
                     simp only [Act.put, List.setIfInBounds_toArray, List.set_cons_zero, List.set_cons_succ])
                  | (refine mv_free _ (Or.inr ⟨by rfl, rfl⟩) (⟨x0, x1, x2⟩) ?_
                     simp only [Act.put, List.setIfInBounds_toArray, List.set_cons_zero, List.set_cons_succ])
              refine mv_done ?_
              go_wp2
              go_ret
              exact ⟨rfl, BS.out⟩
            · have KY2 := Lib.hid (show Held b (KeC ZX YP g yt yr) w11 from KeC_eq g yt yr e1 (fun _ _ => rfl) ▸ KY.out)
              replace e1 := Lib.hid e1
              have EQ := fun u => veq (ZX 0) (ZX 1) (ZX 2) u
              have hh_ := KW.out
              obtain ⟨x0, xf0⟩ := hh_.one 0 rfl
              obtain ⟨x1, xf1⟩ := hh_.one 1 rfl
              obtain ⟨x2, xf2⟩ := hh_.one 2 rfl
              clear hh_
              go_wp2_with fail
              refine region_moves (fun u => u.cell? ⟨wb, 0, none⟩ = some (.int .i64 (ZX 0)) ∧ u.cell? ⟨wb, 1, none⟩ = some (.int .i64 (ZX 1)) ∧ u.cell? ⟨wb, 2, none⟩ = some (.int .i64 (ZX 2))) [] [(.free, 0), (.free, 1), (.free, 2), (.free, 3), (.free, 4), (.free, 5), (.take, 7), (.step, 6), (.free, 8), (.free, 9), (.free, 10), (.free, 11), (.step, 12), (.free, 13), (.free, 14)] _ (by kernel_rfl) (by kernel_rfl) (by kernel_rfl) (by kernel_rfl) (by decide) rfl (fun _ _ _ _ _ h => h) ?_
              simp only [List.filterMap_cons, List.filterMap_nil, List.getElem?_toArray, List.getElem?_cons_zero, List.getElem?_cons_succ, Option.map_some]
              iterate 6
                first
                  | (refine mv_free ?_ (Or.inl ⟨by rfl, ?_⟩) (⟨x0, x1, x2⟩) ?_
                     rotate_left 1
                     · intro u
                       go_simp
                       try simp only [d1]
                       try simp only [d2]
                       try simp only [d3]
                       try with_reducible rfl
                     simp only [Act.put, List.setIfInBounds_toArray, List.set_cons_zero, List.set_cons_succ])
                  | (refine mv_free _ (Or.inr ⟨by rfl, rfl⟩) (⟨x0, x1, x2⟩) ?_
                     simp only [Act.put, List.setIfInBounds_toArray, List.set_cons_zero, List.set_cons_succ])
              iterate 1
                first
                  | (refine mv_take ?_ (Or.inl ⟨by rfl, ?_⟩) (⟨x0, x1, x2⟩) ?_
                     rotate_left 1
                     · intro u hu
                       (try dsimp only at hu)
                       go_simp
                       try with_reducible rfl
                     simp only [Act.put, List.setIfInBounds_toArray, List.set_cons_zero, List.set_cons_succ])
                  | (refine mv_take _ (Or.inr ⟨by rfl, rfl⟩) (⟨x0, x1, x2⟩) ?_
                     simp only [Act.put, List.setIfInBounds_toArray, List.set_cons_zero, List.set_cons_succ])
              refine mv_step (fun K hK => ?_)
              go_simp
              refine (kstate b _ _ _ _ _ _ KY2.out.drew).mono ?_
              rintro e w12 ⟨rfl, hq⟩
              replace KW := Lib.hid (KW.out.drew.bel hq)
              replace BS := Lib.hid (BS.out.drew.trans (hq.mono BS.out.size))
              clear hq
              clear x0 x1 x2 xf0 xf1 xf2
              have hh_ := KW.out
              obtain ⟨x0, xf0⟩ := hh_.one 0 rfl
              obtain ⟨x1, xf1⟩ := hh_.one 1 rfl
              obtain ⟨x2, xf2⟩ := hh_.one 2 rfl
              clear hh_
              go_wp2_with fail
              refine hK.out _ _ _ (fun u hu => hu) (⟨x0, x1, x2⟩) ?_
              clear hK K
              iterate 4
                first
                  | (refine mv_free ?_ (Or.inl ⟨by rfl, ?_⟩) (⟨x0, x1, x2⟩) ?_
                     rotate_left 1
                     · intro u
                       go_simp
                       try simp only [d1]
                       try simp only [d2]
                       try simp only [d3]
                       try with_reducible rfl
                     simp only [Act.put, List.setIfInBounds_toArray, List.set_cons_zero, List.set_cons_succ])
                  | (refine mv_free _ (Or.inr ⟨by rfl, rfl⟩) (⟨x0, x1, x2⟩) ?_
                     simp only [Act.put, List.setIfInBounds_toArray, List.set_cons_zero, List.set_cons_succ])
              refine mv_step (fun K hK => ?_)
              go_simp
              refine (lives41 _).mono ?_
              rintro e w13 ⟨rfl, hq⟩
              replace KW := Lib.hid (KW.out.bel hq)
              replace BS := Lib.hid (BS.out.trans (hq.mono BS.out.size))
              clear hq
              clear x0 x1 x2 xf0 xf1 xf2
              have hh_ := KW.out
              obtain ⟨x0, xf0⟩ := hh_.one 0 rfl
              obtain ⟨x1, xf1⟩ := hh_.one 1 rfl
              obtain ⟨x2, xf2⟩ := hh_.one 2 rfl
              clear hh_
              go_wp2_with fail
              refine hK.out _ _ _ (fun u hu => hu) (⟨x0, x1, x2⟩) ?_
              clear hK K
              iterate 2
                first
                  | (refine mv_free ?_ (Or.inl ⟨by rfl, ?_⟩) (⟨x0, x1, x2⟩) ?_
                     rotate_left 1
                     · intro u
                       go_simp
                       try simp only [d1]
                       try simp only [d2]
                       try simp only [d3]
                       try with_reducible rfl
                     simp only [Act.put, List.setIfInBounds_toArray, List.set_cons_zero, List.set_cons_succ])
                  | (refine mv_free _ (Or.inr ⟨by rfl, rfl⟩) (⟨x0, x1, x2⟩) ?_
                     simp only [Act.put, List.setIfInBounds_toArray, List.set_cons_zero, List.set_cons_succ])
              refine mv_done ?_
              go_wp2
              go_ret
              exact ⟨rfl, BS.out⟩
end Go.Proofs.Ytakocggclopngaa
