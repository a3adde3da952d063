/- The laws PhaseOrder and PhaseSteady, walked. -/
import Derived.Test.YtlhejkaedgelnaaPhase6
namespace Go.Proofs.Ytlhejkaedgelnaa
open Go.ChangeShapes Go.WideShapes Go.ChangeAt Go.RowKit
set_option linter.unusedVariables false
set_option linter.unusedSimpArgs false
theorem look_at {w : World} {t : Option Addr} {rows : List (List Value)} (h : Tab [some .i64, some .i64, some .i64] w t rows) {i : Nat} (hi : i < rows.length) :
    ∃ tb off x y z, t = some ⟨tb, off, none⟩ ∧ tb < w.heap.size ∧ ∀ v, Below w.heap.size w v → v.cell? ⟨tb, off + i * 3, none⟩ = some (.int .i64 x) ∧ v.cell? ⟨tb, off + i * 3 + 1, none⟩ = some (.int .i64 y) ∧ v.cell? ⟨tb, off + i * 3 + 2, none⟩ = some (.int .i64 z) := by
  obtain ⟨tb, off, r, rfl, htb, hr, hfl, hcell⟩ := h.at hi
  obtain ⟨x, _, rfl, _, hfl⟩ := hfl
  obtain ⟨y, _, rfl, _, hfl⟩ := hfl
  obtain ⟨z, _, rfl, _, hfl⟩ := hfl
  exact ⟨tb, off, x, y, z, rfl, htb, fun v hv => ⟨(bc hv htb).trans (hcell 0 _ rfl), (bc hv htb).trans (hcell 1 _ rfl), (bc hv htb).trans (hcell 2 _ rfl)⟩⟩
set_option maxRecDepth 100000 in
set_option maxHeartbeats 8000000 in
theorem law_PhaseOrder (pt : Int) (t : Option Addr) (cap : Nat) (rows : List (List Value)) (w : World) (ht : Tab [some .i64, some .i64, some .i64] w t rows) (hl : rows.length ≤ maxLen) : Calls Try.prog 13 #[.int .i64 pt, .slice t rows.length cap] w fun e w' => e = .returned (.bool true) ∧ Below w.heap.size w w' := by
  unfold maxLen at hl
  by_cases hp : pt < 1 ∨ 1000 < pt
  · have NW := Lib.hid (fun u => pnew_no pt hp u)
    have h2 : pt < 1 ∨ (1 ≤ pt ∧ 1000 < pt) := by omega
    clear hp
    rcases h2 with h2 | ⟨h2, h3⟩
    all_goals
      go_enter Try.func13, Try.ntmps13
      go_wp2_with (first | (go_at_call 51; refine (NW.out _).mono ?_; rintro e w1 ⟨rfl, rfl⟩) | (go_at_call 50; refine (lives50 _).mono ?_; rintro e w1 ⟨rfl, hb3⟩))
      go_ret
      exact ⟨rfl, hb3⟩
  · have h2 : 1 ≤ pt := by omega
    have h3 : pt ≤ 1000 := by omega
    have NW := Lib.hid (fun u => pnew_ok pt h2 h3 u)
    have ok0 := Lib.hid (phO_ok h2 h3)
    clear hp
    by_cases hbig : 300 < rows.length
    · go_enter Try.func13, Try.ntmps13
      go_wp2_with fail
      refine (NW.out _).mono ?_
      rintro e w1 ⟨b, hb, rfl, k1, hb1⟩
      go_wp2_with (go_at_call 50; refine (lives50 _).mono ?_; rintro e w1 ⟨rfl, hb2⟩)
      go_ret
      exact ⟨rfl, hb1.trans (hb2.mono hb1.size)⟩
    · go_enter Try.func13, Try.ntmps13
      go_wp2_with fail
      refine (NW.out _).mono ?_
      rintro e w1 ⟨b, hb, rfl, k1, hb1⟩
      have K1 := Lib.hid k1
      have HB := Lib.hid hb
      have B1 := Lib.hid hb1
      clear k1 hb hb1
      go_wp2_with fail
      go_loopw [7, 8] (fun f i v => ∃ (k : Nat) (S : PhS) (n : Int), k ≤ rows.length ∧ i = .int .i64 k ∧ f = .int .i64 n ∧ n ≤ k ∧ 0 ≤ n ∧ Hid (PhOk pt k S) ∧ Hid (phSum S.T = k) ∧ Hid (S.lg + (if S.p = 0 then 0 else 1) ≤ n) ∧ Hid (Held b (phC pt S) v) ∧ Hid (Below w.heap.size w v)) (fun _ i _ => rows.length - (intOf i).toNat)
      case atStart => exact ⟨0, phO, 0, Nat.zero_le _, rfl, rfl, by omega, by omega, ok0, Lib.hid rfl, Lib.hid (by decide), K1, B1⟩
      case round =>
        obtain ⟨k, S, n, hk, rfl, rfl, hn, hn0, ok, hs, hg, kk, hbel⟩ := hrel
        clear K1 B1
        by_cases hlt : k < rows.length
        · obtain ⟨tb, off, c, h, r, rfl, htb, hcells⟩ := look_at ht hlt
          have hcells := Lib.hid hcells
          clear ht
          obtain ⟨m0, m1, m2⟩ := hcells.out wr hbel.out
          have hP := phStep_p ok.out c h r
          have hok := Lib.hid (phStep_ok ok.out c h r)
          have hsum := Lib.hid ((phStep_sum ok.out c h r).trans (by rw [hs.out]))
          have PP := Lib.hid (pphase b wr kk.out)
          have ST := Lib.hid (pstep b c h r wr kk.out ok.out (by omega))
          have hS0 := ok.out.p0
          have hS5 := ok.out.p5
          obtain ⟨q, eq, q0, q5, hq1, hq2, hq3⟩ := hP
          replace hq3 := Lib.hid hq3
          rw [eq] at ST
          have hlg := Lib.hid hg.out
          generalize hZ : phStep pt S c h r = Z at *
          have HZ := Lib.hid hZ
          have hsp : ∃ p, S.p = p := ⟨_, rfl⟩
          obtain ⟨p, hp⟩ := hsp
          rw [hp] at PP hS0 hS5 hq1 hq2 hq3 hlg
          have EQ := Lib.hid eq
          clear hZ eq hp ok hs hg
          rcases (show (p = 0 ∧ q = 0) ∨ (p = 0 ∧ q = 1) ∨ (p = 1 ∧ q = 0) ∨ (p = 5 ∧ q = 0) ∨ (p ≠ 0 ∧ q ≠ 0) by omega) with ⟨e1, e2⟩ | ⟨e1, e2⟩ | ⟨e1, e2⟩ | ⟨e1, e2⟩ | ⟨e1, e2⟩
          · subst e1
            subst e2
            replace hq1 := Lib.hid hq1
            replace hq2 := Lib.hid hq2
            go_wp2_with fail
            refine PP.out.mono ?_
            rintro e w' ⟨rfl, rfl⟩
            go_wp2_with fail
            refine ST.out.mono ?_
            rintro e w2 ⟨rfl, k2, b2⟩
            have hb2 := Lib.hid (Below.beside hbel.out b2 HB.out)
            have TM := Lib.hid (ptimes b w2 k2)
            have K2 := Lib.hid k2
            clear k2 b2 ST PP m0 m1 m2 kk hbel
            have t00 := hok.out.t0 0
            have t01 := hok.out.t1 0
            have t10 := hok.out.t0 1
            have t11 := hok.out.t1 1
            have t20 := hok.out.t0 2
            have t21 := hok.out.t1 2
            have t30 := hok.out.t0 3
            have t31 := hok.out.t1 3
            have t40 := hok.out.t0 4
            have t41 := hok.out.t1 4
            have t50 := hok.out.t0 5
            have t51 := hok.out.t1 5
            have hs2 : Z.T 0 + Z.T 1 + Z.T 2 + Z.T 3 + Z.T 4 + Z.T 5 = (k : Int) + 1 := hsum.out
            generalize Z.T 0 = y0 at *
            generalize Z.T 1 = y1 at *
            generalize Z.T 2 = y2 at *
            generalize Z.T 3 = y3 at *
            generalize Z.T 4 = y4 at *
            generalize Z.T 5 = y5 at *
            have hs3 : ((y0 + y1 + y2 + y3 + y4 + y5) != ((k : Int) + 1)) = false := by simp [hs2]
            clear hs2
            go_wp2_with fail
            refine TM.out.mono ?_
            rintro e w3 ⟨rfl, hb3⟩
            have K3 := Lib.hid (K2.out.bel hb3)
            have hb4 := Lib.hid (hb2.out.trans (hb3.mono hb2.out.size))
            clear K2 hb2 hb3 TM
            go_wp2
            all_goals first | (exfalso; omega) | skip
            go_roundw
            case rel => exact ⟨k + 1, Z, n, by omega, by go_num, rfl, by omega, by omega, hok, Lib.hid hsum.out, Lib.hid (by have a1 := hq3.out; have a2 := hlg.out; rw [EQ.out]; simp at a1 a2 ⊢; omega), Lib.hid ((K3.out).bel ((Below.refl _ _).alloc (Nat.le_refl _) _)), Lib.hid (hb4.out.alloc hb4.out.size _)⟩
            case measure => simp [intOf]; omega
          · subst e1
            subst e2
            replace hq1 := Lib.hid hq1
            replace hq2 := Lib.hid hq2
            go_wp2_with fail
            refine PP.out.mono ?_
            rintro e w' ⟨rfl, rfl⟩
            go_wp2_with fail
            refine ST.out.mono ?_
            rintro e w2 ⟨rfl, k2, b2⟩
            have hb2 := Lib.hid (Below.beside hbel.out b2 HB.out)
            have TM := Lib.hid (ptimes b w2 k2)
            have K2 := Lib.hid k2
            clear k2 b2 ST PP m0 m1 m2 kk hbel
            have t00 := hok.out.t0 0
            have t01 := hok.out.t1 0
            have t10 := hok.out.t0 1
            have t11 := hok.out.t1 1
            have t20 := hok.out.t0 2
            have t21 := hok.out.t1 2
            have t30 := hok.out.t0 3
            have t31 := hok.out.t1 3
            have t40 := hok.out.t0 4
            have t41 := hok.out.t1 4
            have t50 := hok.out.t0 5
            have t51 := hok.out.t1 5
            have hs2 : Z.T 0 + Z.T 1 + Z.T 2 + Z.T 3 + Z.T 4 + Z.T 5 = (k : Int) + 1 := hsum.out
            generalize Z.T 0 = y0 at *
            generalize Z.T 1 = y1 at *
            generalize Z.T 2 = y2 at *
            generalize Z.T 3 = y3 at *
            generalize Z.T 4 = y4 at *
            generalize Z.T 5 = y5 at *
            have hs3 : ((y0 + y1 + y2 + y3 + y4 + y5) != ((k : Int) + 1)) = false := by simp [hs2]
            clear hs2
            go_wp2_with fail
            refine TM.out.mono ?_
            rintro e w3 ⟨rfl, hb3⟩
            have K3 := Lib.hid (K2.out.bel hb3)
            have hb4 := Lib.hid (hb2.out.trans (hb3.mono hb2.out.size))
            clear K2 hb2 hb3 TM
            go_wp2
            all_goals first | (exfalso; omega) | skip
            go_roundw
            case rel => exact ⟨k + 1, Z, n + 1, by omega, by go_num, rfl, by omega, by omega, hok, Lib.hid hsum.out, Lib.hid (by have a1 := hq3.out; have a2 := hlg.out; rw [EQ.out]; simp at a1 a2 ⊢; omega), Lib.hid ((K3.out).bel ((Below.refl _ _).alloc (Nat.le_refl _) _)), Lib.hid (hb4.out.alloc hb4.out.size _)⟩
            case measure => simp [intOf]; omega
          · subst e1
            subst e2
            replace hq1 := Lib.hid hq1
            replace hq2 := Lib.hid hq2
            go_wp2_with fail
            refine PP.out.mono ?_
            rintro e w' ⟨rfl, rfl⟩
            go_wp2_with fail
            refine ST.out.mono ?_
            rintro e w2 ⟨rfl, k2, b2⟩
            have hb2 := Lib.hid (Below.beside hbel.out b2 HB.out)
            have TM := Lib.hid (ptimes b w2 k2)
            have K2 := Lib.hid k2
            clear k2 b2 ST PP m0 m1 m2 kk hbel
            have t00 := hok.out.t0 0
            have t01 := hok.out.t1 0
            have t10 := hok.out.t0 1
            have t11 := hok.out.t1 1
            have t20 := hok.out.t0 2
            have t21 := hok.out.t1 2
            have t30 := hok.out.t0 3
            have t31 := hok.out.t1 3
            have t40 := hok.out.t0 4
            have t41 := hok.out.t1 4
            have t50 := hok.out.t0 5
            have t51 := hok.out.t1 5
            have hs2 : Z.T 0 + Z.T 1 + Z.T 2 + Z.T 3 + Z.T 4 + Z.T 5 = (k : Int) + 1 := hsum.out
            generalize Z.T 0 = y0 at *
            generalize Z.T 1 = y1 at *
            generalize Z.T 2 = y2 at *
            generalize Z.T 3 = y3 at *
            generalize Z.T 4 = y4 at *
            generalize Z.T 5 = y5 at *
            have hs3 : ((y0 + y1 + y2 + y3 + y4 + y5) != ((k : Int) + 1)) = false := by simp [hs2]
            clear hs2
            go_wp2_with fail
            refine TM.out.mono ?_
            rintro e w3 ⟨rfl, hb3⟩
            have K3 := Lib.hid (K2.out.bel hb3)
            have hb4 := Lib.hid (hb2.out.trans (hb3.mono hb2.out.size))
            clear K2 hb2 hb3 TM
            go_wp2
            all_goals first | (exfalso; omega) | skip
            go_roundw
            case rel => exact ⟨k + 1, Z, n, by omega, by go_num, rfl, by omega, by omega, hok, Lib.hid hsum.out, Lib.hid (by have a1 := hq3.out; have a2 := hlg.out; rw [EQ.out]; simp at a1 a2 ⊢; omega), Lib.hid ((K3.out).bel ((Below.refl _ _).alloc (Nat.le_refl _) _)), Lib.hid (hb4.out.alloc hb4.out.size _)⟩
            case measure => simp [intOf]; omega
          · subst e1
            subst e2
            replace hq1 := Lib.hid hq1
            replace hq2 := Lib.hid hq2
            go_wp2_with fail
            refine PP.out.mono ?_
            rintro e w' ⟨rfl, rfl⟩
            go_wp2_with fail
            refine ST.out.mono ?_
            rintro e w2 ⟨rfl, k2, b2⟩
            have hb2 := Lib.hid (Below.beside hbel.out b2 HB.out)
            have TM := Lib.hid (ptimes b w2 k2)
            have K2 := Lib.hid k2
            clear k2 b2 ST PP m0 m1 m2 kk hbel
            have t00 := hok.out.t0 0
            have t01 := hok.out.t1 0
            have t10 := hok.out.t0 1
            have t11 := hok.out.t1 1
            have t20 := hok.out.t0 2
            have t21 := hok.out.t1 2
            have t30 := hok.out.t0 3
            have t31 := hok.out.t1 3
            have t40 := hok.out.t0 4
            have t41 := hok.out.t1 4
            have t50 := hok.out.t0 5
            have t51 := hok.out.t1 5
            have hs2 : Z.T 0 + Z.T 1 + Z.T 2 + Z.T 3 + Z.T 4 + Z.T 5 = (k : Int) + 1 := hsum.out
            generalize Z.T 0 = y0 at *
            generalize Z.T 1 = y1 at *
            generalize Z.T 2 = y2 at *
            generalize Z.T 3 = y3 at *
            generalize Z.T 4 = y4 at *
            generalize Z.T 5 = y5 at *
            have hs3 : ((y0 + y1 + y2 + y3 + y4 + y5) != ((k : Int) + 1)) = false := by simp [hs2]
            clear hs2
            go_wp2_with fail
            refine TM.out.mono ?_
            rintro e w3 ⟨rfl, hb3⟩
            have K3 := Lib.hid (K2.out.bel hb3)
            have hb4 := Lib.hid (hb2.out.trans (hb3.mono hb2.out.size))
            clear K2 hb2 hb3 TM
            go_wp2
            all_goals first | (exfalso; omega) | skip
            go_roundw
            case rel => exact ⟨k + 1, Z, n, by omega, by go_num, rfl, by omega, by omega, hok, Lib.hid hsum.out, Lib.hid (by have a1 := hq3.out; have a2 := hlg.out; rw [EQ.out]; simp at a1 a2 ⊢; omega), Lib.hid ((K3.out).bel ((Below.refl _ _).alloc (Nat.le_refl _) _)), Lib.hid (hb4.out.alloc hb4.out.size _)⟩
            case measure => simp [intOf]; omega
          · have z1 : (p == 0) = false := beq_eq_false_iff_ne.2 e1
            have z2 : (q == 0) = false := beq_eq_false_iff_ne.2 e2
            replace e1 := Lib.hid e1
            replace e2 := Lib.hid e2
            replace hq1 := Lib.hid hq1
            replace hq2 := Lib.hid hq2
            go_wp2_with fail
            refine PP.out.mono ?_
            rintro e w' ⟨rfl, rfl⟩
            go_wp2_with fail
            refine ST.out.mono ?_
            rintro e w2 ⟨rfl, k2, b2⟩
            have hb2 := Lib.hid (Below.beside hbel.out b2 HB.out)
            have TM := Lib.hid (ptimes b w2 k2)
            have K2 := Lib.hid k2
            clear k2 b2 ST PP m0 m1 m2 kk hbel
            have t00 := hok.out.t0 0
            have t01 := hok.out.t1 0
            have t10 := hok.out.t0 1
            have t11 := hok.out.t1 1
            have t20 := hok.out.t0 2
            have t21 := hok.out.t1 2
            have t30 := hok.out.t0 3
            have t31 := hok.out.t1 3
            have t40 := hok.out.t0 4
            have t41 := hok.out.t1 4
            have t50 := hok.out.t0 5
            have t51 := hok.out.t1 5
            have hs2 : Z.T 0 + Z.T 1 + Z.T 2 + Z.T 3 + Z.T 4 + Z.T 5 = (k : Int) + 1 := hsum.out
            generalize Z.T 0 = y0 at *
            generalize Z.T 1 = y1 at *
            generalize Z.T 2 = y2 at *
            generalize Z.T 3 = y3 at *
            generalize Z.T 4 = y4 at *
            generalize Z.T 5 = y5 at *
            have hs3 : ((y0 + y1 + y2 + y3 + y4 + y5) != ((k : Int) + 1)) = false := by simp [hs2]
            clear hs2
            go_wp2_with fail
            refine TM.out.mono ?_
            rintro e w3 ⟨rfl, hb3⟩
            have K3 := Lib.hid (K2.out.bel hb3)
            have hb4 := Lib.hid (hb2.out.trans (hb3.mono hb2.out.size))
            clear K2 hb2 hb3 TM
            go_wp2
            all_goals first | (exfalso; omega) | skip
            go_roundw
            case rel => exact ⟨k + 1, Z, n, by omega, by go_num, rfl, by omega, by omega, hok, Lib.hid hsum.out, Lib.hid (by have a1 := hq3.out; have a2 := hlg.out; have c1 := e1.out; have c2 := e2.out; rw [EQ.out]; rw [if_neg c1] at a1 a2; rw [if_neg c2] at a1 ⊢; rw [if_neg (fun q => c1 q.1)] at a1; omega), Lib.hid ((K3.out).bel ((Below.refl _ _).alloc (Nat.le_refl _) _)), Lib.hid (hb4.out.alloc hb4.out.size _)⟩
            case measure => simp [intOf]; omega
        · have hLG := Lib.hid hg.out
          have PL := Lib.hid (plegs b wr kk.out)
          have hle : S.lg ≤ n := by have := hg.out; split at this <;> omega
          go_wp2_with fail
          refine PL.out.mono ?_
          rintro e w' ⟨rfl, rfl⟩
          go_wp2_with (go_at_call 50; refine (lives50 _).mono ?_; rintro e w1 ⟨rfl, hb3⟩)
          go_ret
          exact ⟨rfl, hbel.out.trans (hb3.mono hbel.out.size)⟩
theorem psd_box (w : World) (c h r : Int) : ∃ V, V = w.alloc (.cells #[.int .i64 c, .int .i64 h, .int .i64 r] 88) ∧ Below w.heap.size w V ∧ V.heap.size = w.heap.size + 1 ∧ Held w.heap.size [.int .i64 c, .int .i64 h, .int .i64 r] V :=
  ⟨_, rfl, (by repeat (first | exact Below.refl _ _ | assumption | apply Below.drew | apply below_drewN | (refine Below.alloc ?_ (by first | exact Nat.le_refl _ | omega | (simp <;> omega)) _) | (refine Below.setCell ?_ (by first | exact Nat.le_refl _ | omega | (simp <;> omega)) _))), by simp, Held.new w [.int .i64 c, .int .i64 h, .int .i64 r] _⟩
def PsF (pt : Int) (S : PhS) (c h r : Int) (k : Int) : Prop := phA S.p c h r = S.p ∨ phM pt S c h r ≤ 3 * pt - k
theorem PsF.next {pt m : Int} {S : PhS} {c h r k : Int} (H : PhOk pt m S) (q : PsF pt S c h r k) : PsF pt (phStep pt S c h r) c h r (k + 1) := by
  obtain ⟨a1, a2, a3⟩ := phM_step H c h r
  by_cases e : phA S.p c h r = S.p
  · left
    rw [a2 e]
    exact e
  · right
    have := a3 e
    rcases q with q | q
    · exact absurd q e
    · omega
set_option maxRecDepth 100000 in
set_option maxHeartbeats 8000000 in
theorem law_PhaseSteady (pt : Int) (t : Option Addr) (cap : Nat) (rows : List (List Value)) (c h r : Int) (w : World) (ht : Tab [some .i64, some .i64, some .i64] w t rows) (hl : rows.length ≤ maxLen) : Calls Try.prog 14 #[.int .i64 pt, .slice t rows.length cap, .agg #[.int .i64 c, .int .i64 h, .int .i64 r]] w fun e w' => e = .returned (.bool true) ∧ Below w.heap.size w w' := by
  unfold maxLen at hl
  obtain ⟨V, eV, hb0, hz, hV⟩ := psd_box w c h r
  replace hb0 := Lib.hid hb0
  replace hz := Lib.hid hz
  replace hV := Lib.hid hV
  replace eV := Lib.hid eV
  by_cases hp : pt < 1 ∨ 1000 < pt
  · have NW := Lib.hid (fun u => pnew_no pt hp u)
    have h2 : pt < 1 ∨ (1 ≤ pt ∧ 1000 < pt) := by omega
    clear hp
    rcases h2 with h2 | ⟨h2, h3⟩
    all_goals
      go_enter Try.func14, Try.ntmps14
      go_wp2_with fail
      rw [← eV.out]
      refine (NW.out _).mono ?_
      rintro e w1 ⟨rfl, rfl⟩
      go_wp2_with (go_at_call 50; refine (lives50 _).mono ?_; rintro e w1 ⟨rfl, hb3⟩)
      go_ret
      exact ⟨rfl, hb0.out.trans (hb3.mono hb0.out.size)⟩
  · have h2 : 1 ≤ pt := by omega
    have h3 : pt ≤ 1000 := by omega
    have NW := Lib.hid (fun u => pnew_ok pt h2 h3 u)
    have ok0 := Lib.hid (phO_ok h2 h3)
    clear hp
    rcases (show 50 < pt ∨ (pt ≤ 50 ∧ 100 < rows.length) ∨ (pt ≤ 50 ∧ rows.length ≤ 100) by omega) with hc | ⟨hc, hc2⟩ | ⟨hc, hc2⟩
    · go_enter Try.func14, Try.ntmps14
      go_wp2_with fail
      rw [← eV.out]
      refine (NW.out _).mono ?_
      rintro e w1 ⟨b, hb, rfl, k1, hb1⟩
      have g1 := hb0.out.trans (hb1.mono hb0.out.size)
      go_wp2_with (go_at_call 50; refine (lives50 _).mono ?_; rintro e w1 ⟨rfl, hb2⟩)
      go_ret
      exact ⟨rfl, g1.trans (hb2.mono g1.size)⟩
    · go_enter Try.func14, Try.ntmps14
      go_wp2_with fail
      rw [← eV.out]
      refine (NW.out _).mono ?_
      rintro e w1 ⟨b, hb, rfl, k1, hb1⟩
      have g1 := hb0.out.trans (hb1.mono hb0.out.size)
      go_wp2_with (go_at_call 50; refine (lives50 _).mono ?_; rintro e w1 ⟨rfl, hb2⟩)
      go_ret
      exact ⟨rfl, g1.trans (hb2.mono g1.size)⟩
    · go_enter Try.func14, Try.ntmps14
      go_wp2_with fail
      rw [← eV.out]
      refine (NW.out _).mono ?_
      rintro e w1 ⟨b, hb, rfl, k1, hb1⟩
      have K1 := Lib.hid k1
      have HB := Lib.hid (show w.heap.size < b by have := hz.out; omega)
      have B1 := Lib.hid (hb0.out.trans (hb1.mono hb0.out.size))
      have V1 := Lib.hid (hV.out.bel hb1)
      clear k1 hb hb1
      go_wp2_with fail
      go_loopw [9] (fun i v => ∃ (k : Nat) (S : PhS), k ≤ rows.length ∧ i = .int .i64 k ∧ Hid (PhOk pt k S) ∧ Hid (Held b (phC pt S) v) ∧ Hid (Held w.heap.size [.int .i64 c, .int .i64 h, .int .i64 r] v) ∧ Hid (Below w.heap.size w v)) (fun i _ => rows.length - (intOf i).toNat)
      case atStart => exact ⟨0, phO, Nat.zero_le _, rfl, ok0, K1, V1, B1⟩
      case round =>
        obtain ⟨k, S, hk, rfl, ok, kk, kv, hbel⟩ := hrel
        clear K1 B1 V1
        by_cases hlt : k < rows.length
        · obtain ⟨tb, off, x, y, z, rfl, htb, hcells⟩ := look_at ht hlt
          have hcells := Lib.hid hcells
          clear ht
          obtain ⟨m0, m1, m2⟩ := hcells.out wr hbel.out
          have hok := Lib.hid (phStep_ok ok.out x y z)
          have ST := Lib.hid (pstep b x y z wr kk.out ok.out (by omega))
          generalize phStep pt S x y z = Z at *
          go_wp2_with fail
          refine ST.out.mono ?_
          rintro e w2 ⟨rfl, k2, b2⟩
          have hb2 := Lib.hid (Below.beside hbel.out b2 (Nat.le_of_lt HB.out))
          have K2 := Lib.hid k2
          have V2 := Lib.hid (kv.out.beside b2 (Nat.ne_of_lt HB.out))
          clear k2 b2 ST m0 m1 m2 kk hbel kv ok
          go_wp2
          go_roundw
          case rel => exact ⟨k + 1, Z, by omega, by go_num, hok, K2, V2, hb2⟩
          case measure => simp [intOf]; omega
        · have hk100 : (k : Int) ≤ 100 := by omega
          have F0 := Lib.hid (show PsF pt S c h r 0 from .inr (by have := phM_top ok.out c h r; omega))
          generalize wr = v0 at *
          go_wp2_with fail
          go_loopw [10] (fun i v => ∃ (l : Nat) (Z : PhS) (m : Int), (l : Int) ≤ 4 * pt + 8 ∧ i = .int .i64 l ∧ m ≤ 100 + l ∧ Hid (PhOk pt m Z) ∧ Hid (PsF pt Z c h r l) ∧ Hid (Held b (phC pt Z) v) ∧ Hid (Held w.heap.size [.int .i64 c, .int .i64 h, .int .i64 r] v) ∧ Hid (Below w.heap.size w v)) (fun i _ => (4 * pt + 8 - intOf i).toNat)
          case atStart => exact ⟨0, S, k, by omega, rfl, by omega, ok, F0, kk, kv, hbel⟩
          case round =>
            clear ok F0 kk kv hbel hlt hk hk100
            obtain ⟨l, Z, m, hl2, rfl, hm, ok, fx, kk, kv, hbel⟩ := hrel
            have kvv := kv.out
            obtain ⟨c0, f0⟩ := kvv.one 0 rfl
            obtain ⟨c1, f1⟩ := kvv.one 1 rfl
            obtain ⟨c2, f2⟩ := kvv.one 2 rfl
            clear kvv
            by_cases hlt : (l : Int) < 4 * pt + 8
            · have hok := Lib.hid (phStep_ok ok.out c h r)
              have hfx := Lib.hid (PsF.next ok.out fx.out)
              have ST := Lib.hid (pstep b c h r wr kk.out ok.out (by omega))
              generalize phStep pt Z c h r = Y at *
              go_wp2_with fail
              refine ST.out.mono ?_
              rintro e w2 ⟨rfl, k2, b2⟩
              have hb2 := Lib.hid (Below.beside hbel.out b2 (Nat.le_of_lt HB.out))
              have K2 := Lib.hid k2
              have V2 := Lib.hid (kv.out.beside b2 (Nat.ne_of_lt HB.out))
              clear k2 b2 ST kk hbel kv ok fx c0 c1 c2 f0 f1 f2
              go_wp2
              go_roundw
              case rel => exact ⟨l + 1, Y, m + 1, by omega, by go_num, by omega, hok, Lib.hid (by have := hfx.out; rwa [show ((l + 1 : Nat) : Int) = (l : Int) + 1 by omega]), K2, V2, hb2⟩
              case measure => simp [intOf]; omega
            · have e : phA Z.p c h r = Z.p := by
                rcases fx.out with q | q
                · exact q
                · exact (phM_step ok.out c h r).1 (by omega)
              have PA := fun u => pasked Z.p c h r u
              rw [e] at PA
              replace PA := Lib.hid PA
              have PP := Lib.hid (pphase b wr kk.out)
              clear e
              generalize Z.p = p at *
              go_wp2_with fail
              refine PP.out.mono ?_
              rintro e w' ⟨rfl, rfl⟩
              go_wp2_with fail
              refine (PA.out _).mono ?_
              rintro e w2 ⟨rfl, hb2⟩
              have hb3 := Lib.hid (hbel.out.trans (hb2.mono hbel.out.size))
              go_wp2_with (go_at_call 50; refine (lives50 _).mono ?_; rintro e w1 ⟨rfl, hb4⟩)
              go_ret
              exact ⟨rfl, hb3.out.trans (hb4.mono hb3.out.size)⟩
end Go.Proofs.Ytlhejkaedgelnaa
