/- The law BusSpreads; walked. -/
import Derived.Test.YtcpmdgbogdikiaaBus18
import Derived.Test.YtcpmdgbogdikiaaMix
import Derived.Deep.CutBlock
namespace Go.Proofs.Ytcpmdgbogdikiaa
open Go.ChangeShapes Go.WideShapes Go.ChangeAt Go.RowKit
set_option linter.unusedVariables false
set_option linter.unusedSimpArgs false
def bsA (n : Nat) (N P F : Nat → Int) (ticks : Int) : Int := if rtB n N P F = true then (buA P F n (tkN ticks) : Int) else 0
def bsM (n : Nat) (N P F : Nat → Int) (ticks : Int) : Int := if rtB n N P F = true then (buM P F n (tkN ticks) : Int) else 0
theorem bbusy (a : Option Addr) (cap n : Nat) (N P F : Nat → Int) (ticks : Int) (w : World) (h : Pl w a n N P F) (hcap : n ≤ cap) (hn : n ≤ 1000) (ht : -9223372036854775808 ≤ ticks ∧ ticks ≤ 9223372036854775807) : Calls Try.prog 14 #[.slice a n cap, .int .i64 ticks] w fun e w' => e = .returned (.tuple #[.int .i64 (bsA n N P F ticks), .int .i64 (bsM n N P F ticks)]) ∧ Below w.heap.size w w' := by
  cases hr : rtB n N P F with
  | true => simpa [bsA, bsM, hr] using bbusy_ok a cap n N P F ticks w h hcap hr ht
  | false => simpa [bsA, bsM, hr] using bbusy_no a cap n N P F ticks w h hcap hn hr
theorem bx_box (w : World) (a2 : Option Addr) (m cap2 : Nat) (per : Int) : ∃ V, V = w.alloc (.cells #[.slice a2 m cap2, .int .i64 per] 34) ∧ Below w.heap.size w V ∧ ∀ u, Below V.heap.size V u → u.cell? ⟨w.heap.size, 0, none⟩ = some (.slice a2 m cap2) ∧ u.cell? ⟨w.heap.size, 1, none⟩ = some (.int .i64 per) :=
  ⟨_, rfl, (Below.refl _ _).alloc (Nat.le_refl _) _, fun u k => ⟨(bc k (show w.heap.size < _ by simp)).trans (by go_simp), (bc k (show w.heap.size < _ by simp)).trans (by go_simp)⟩⟩
/-- Numbers in memory. -/
def Rn (w : World) (a : Option Addr) (n : Nat) (X : Nat → Int) : Prop := ∀ i, i < n → ∃ b off, a = some ⟨b, off, none⟩ ∧ b < w.heap.size ∧ w.cell? ⟨b, off + i, none⟩ = some (.int .i64 (X i))
theorem Rn.bel {w u : World} {a : Option Addr} {n : Nat} {X : Nat → Int} (h : Rn w a n X) (k : Below w.heap.size w u) : Rn u a n X := fun i hi => by
  obtain ⟨b, off, e, hb, hc⟩ := h i hi
  exact ⟨b, off, e, Nat.lt_of_lt_of_le hb k.size, (bc k hb).trans hc⟩
theorem rn_row {w : World} {a : Option Addr} {l : List Int} (row : RowIs .i64 w a l) : Rn w a l.length (fun i => l.getD i 0) := fun i hi => row.at hi
/-- How long the plan is that the law wants. -/
def wtN (m : Nat) (per : Int) : Nat := if 1 ≤ per then m else 0
theorem wt_right (m : Nat) (X : Nat → Int) (per : Int) : rtB (wtN m per) X (fun _ => per) (spF per.toNat) = spB m X per := by
  unfold wtN spB
  by_cases z : 1 ≤ per
  · rw [if_pos z, decide_eq_true z, Bool.true_and]
  · rw [if_neg z, decide_eq_false z, Bool.false_and]
    exact decide_eq_false (by omega)
theorem sp_most {m : Nat} {X : Nat → Int} {per : Int} (h1 : 1 ≤ per) (hr : rtB m X (fun _ => per) (spF per.toNat) = true) : bsM m X (fun _ => per) (spF per.toNat) 2000 ≤ ((m : Int) + per - 1) / per ∧ 0 ≤ bsM m X (fun _ => per) (spF per.toNat) 2000 := by
  unfold bsM
  rw [if_pos hr]
  obtain ⟨p, rfl⟩ : ∃ p : Nat, per = (p : Int) := ⟨per.toNat, by omega⟩
  rw [Int.toNat_natCast]
  have h := sp_busy (p := p) (by omega) m (tkN 2000)
  have e : (((m + p - 1) / p : Nat) : Int) = ((m : Int) + (p : Int) - 1) / (p : Int) := by
    rw [Int.natCast_ediv]
    congr 1
    omega
  rw [← e]
  omega
set_option maxRecDepth 100000 in
set_option maxHeartbeats 16000000 in
theorem law_BusSpreads (a : Option Addr) (cap n : Nat) (N P F : Nat → Int) (ticks : Int) (a2 : Option Addr) (cap2 : Nat) (l : List Int) (per : Int) (w : World) (h : Pl w a n N P F) (hcap : n ≤ cap) (hn : n ≤ maxLen) (ht : -9223372036854775808 ≤ ticks ∧ ticks ≤ 9223372036854775807) (row : RowIs .i64 w a2 l) (hl2 : l.length ≤ maxLen) (hp : -9223372036854775808 ≤ per ∧ per ≤ 9223372036854775807) : Calls Try.prog 4 #[.slice a n cap, .int .i64 ticks, .agg #[.slice a2 l.length cap2, .int .i64 per]] w fun e w' => e = .returned (.bool true) ∧ Below w.heap.size w w' := by
  have LV := Lib.hid (fun u => lives46 u)
  obtain ⟨X, eX⟩ : ∃ X : Nat → Int, X = fun i => l.getD i 0 := ⟨_, rfl⟩
  have RN := rn_row row
  have SP := fun u (k : Below w.heap.size w u) => bspread a2 cap2 l per u (row.below k) hl2
  rw [← eX] at RN SP
  obtain ⟨m, em⟩ : ∃ m, l.length = m := ⟨_, rfl⟩
  rw [em] at RN SP hl2 ⊢
  clear row em eX l
  have hn' : (n : Int) ≤ 9223372036854775807 := by unfold maxLen at hn; omega
  have hm' : (m : Int) ≤ 9223372036854775807 := by unfold maxLen at hl2; omega
  obtain ⟨V, eV, hbV, HC⟩ := bx_box w a2 m cap2 per
  have HW := Lib.hid (fun u (k : Below V.heap.size V u) => (hbV.trans (k.mono hbV.size) : Below w.heap.size w u))
  obtain ⟨C, eC⟩ : ∃ C, w.heap.size = C := ⟨_, rfl⟩
  rw [eC] at HC
  replace HC := Lib.hid HC
  replace eV := Lib.hid eV
  have HV := Lib.hid (Below.refl V.heap.size V)
  obtain ⟨c0, c1⟩ := HC.out V HV.out
  have HH := Lib.hid (fun u (k : Below V.heap.size V u) => h.below (HW.out u k))
  have RN := Lib.hid (fun u (k : Below V.heap.size V u) => RN.bel (HW.out u k))
  have SP := Lib.hid (fun u (k : Below V.heap.size V u) => SP u (HW.out u k))
  clear hbV h
  by_cases q : 300 < n
  · have q1 : decide ((300 : Int) < (n : Int)) = true := decide_eq_true (by omega)
    go_enter Try.func4, Try.ntmps4
    go_upto_region 1 with (fail)
    try rw [eC]
    rw [← eV.out]
    go_wp2_with fail
    refine (LV.out _).mono ?_
    rintro e u9 ⟨rfl, hb9⟩
    have hb8 := Lib.hid (show Below w.heap.size w u9 from HW.out _ (HV.out.trans (hb9.mono HV.out.size)))
    clear hb9
    go_wp2
    go_ret
    exact ⟨rfl, hb8.out⟩
  have q1 : decide ((300 : Int) < (n : Int)) = false := decide_eq_false (by omega)
  by_cases q2 : 300 < m
  · have q3 : decide ((300 : Int) < (m : Int)) = true := decide_eq_true (by omega)
    go_enter Try.func4, Try.ntmps4
    go_upto_region 1 with (fail)
    try rw [eC]
    rw [← eV.out]
    go_wp2_with fail
    refine (LV.out _).mono ?_
    rintro e u9 ⟨rfl, hb9⟩
    have hb8 := Lib.hid (show Below w.heap.size w u9 from HW.out _ (HV.out.trans (hb9.mono HV.out.size)))
    clear hb9
    go_wp2
    go_ret
    exact ⟨rfl, hb8.out⟩
  have q3 : decide ((300 : Int) < (m : Int)) = false := decide_eq_false (by omega)
  have n300 : n ≤ 300 := by omega
  have m300 : m ≤ 300 := by omega
  have BU := Lib.hid (bbusy a cap n N P F ticks V (HH.out V HV.out) hcap (by omega) ht)
  have LR := Lib.hid (fun u (k : Below V.heap.size V u) => lright a cap n N P F u (HH.out u k) (by omega))
  clear hcap hn hl2 q q2
  obtain ⟨A, eA⟩ : ∃ A, bsA n N P F ticks = A := ⟨_, rfl⟩
  obtain ⟨M, eM⟩ : ∃ M, bsM n N P F ticks = M := ⟨_, rfl⟩
  rw [eA, eM] at BU
  go_enter Try.func4, Try.ntmps4
  go_upto_region 1 with (fail)
  try rw [eC]
  rw [← eV.out]
  go_wp2_with fail
  refine BU.out.mono ?_
  rintro e u1 ⟨rfl, hb⟩
  have k1 := Lib.hid (show Below V.heap.size V u1 from hb)
  clear hb BU q1 q3 c0 c1
  unfold bsA at eA
  unfold bsM at eM
  replace LR := LR.out u1 k1.out
  obtain ⟨p, ep⟩ : ∃ p, rtB n N P F = p := ⟨_, rfl⟩
  rw [ep] at LR eA eM
  replace LR := Lib.hid LR
  go_wp2_with fail
  refine LR.out.mono ?_
  rintro e u2 ⟨rfl, hb⟩
  have k2 := Lib.hid (show Below V.heap.size V u2 from k1.out.trans (hb.mono k1.out.size))
  clear hb LR k1
  go_upto_if 37 with (fail)
  go_cut [9, 10] from 11 (fun s9 s10 u => s9 = .int .i64 A ∧ s10 = .int .i64 M ∧ Hid (Below V.heap.size V u))
  case first =>
    clear SP RN LV HC
    cases p
    · obtain rfl : 0 = A := by simpa using eA
      obtain rfl : 0 = M := by simpa using eM
      go_wp2_with fail
      go_meet
      case rel => exact ⟨rfl, rfl, k2⟩
    · rw [if_pos rfl] at eA eM
      have hR := of_decide_eq_true ep
      have HS := Lib.hid (fun i (hi : i < n) => (hR.2.2 i hi).1)
      have hn2 : n ≤ 32 := by omega
      obtain ⟨tm, etm⟩ : ∃ tm, tkN ticks = tm := ⟨_, rfl⟩
      rw [etm] at eA eM
      have htm : (tm : Int) ≤ 2000 ∧ ((0 ≤ ticks ∧ ((tm : Int) = ticks ∨ (tm : Int) = 2000 ∧ 2000 < ticks)) ∨ (tm = 0 ∧ ticks < 0)) := by unfold tkN at etm; omega
      have AL := Lib.hid (buA_le P F n)
      have ML := Lib.hid (buM_le P F n)
      have CL := Lib.hid (cnN_le P F n)
      subst eA eM
      clear hR ep etm
      go_wp2_with fail
      go_loopw [9, 10, 11] (fun x y t v => ∃ k : Nat, k ≤ tm ∧ x = .int .i64 (buA P F n k : Int) ∧ y = .int .i64 (buM P F n k : Int) ∧ t = .int .i64 (k : Int) ∧ Hid (Below V.heap.size V v)) (fun _ _ t _ => tm - (intOf t).toNat)
      case atStart => exact ⟨0, by omega, rfl, rfl, rfl, k2⟩
      case round =>
        obtain ⟨k, hk, rfl, rfl, rfl, hb⟩ := hrel
        generalize wr = v at *
        have A1 := AL.out k
        have M1 := ML.out k
        by_cases hlt : k < tm
        · have j1 : decide ((k : Int) < ticks) = true := decide_eq_true (by omega)
          have j4 : decide ((k : Int) < 2000) = true := decide_eq_true (by omega)
          have j2 : IntKind.i64.wrap ((k : Int) + 1) = (k : Int) + 1 := by rw [IntKind.wrap_i64]; omega
          have EA := Lib.hid (show buA P F n (k + 1) = if buM P F n k < (duL P F (k : Int) n).length then k else buA P F n k from rfl)
          have EM := Lib.hid (show buM P F n (k + 1) = if buM P F n k < (duL P F (k : Int) n).length then (duL P F (k : Int) n).length else buM P F n k from rfl)
          have hkb : (k : Int) ≤ 2000 := by omega
          obtain ⟨ba, eba⟩ : ∃ z, buA P F n k = z := ⟨_, rfl⟩
          obtain ⟨bm, ebm⟩ : ∃ z, buM P F n k = z := ⟨_, rfl⟩
          rw [ebm] at EA EM M1
          rw [eba] at EA A1
          rw [eba, ebm]
          clear eba ebm
          go_wp2_with fail
          go_loopw [12, 13] (fun c i v => ∃ j : Nat, j ≤ n ∧ c = .int .i64 ((duL P F (k : Int) j).length : Int) ∧ i = .int .i64 (j : Int) ∧ Hid (Below V.heap.size V v)) (fun _ i _ => n - (intOf i).toNat)
          case atStart => exact ⟨0, by omega, rfl, rfl, hb⟩
          case round =>
            obtain ⟨j, hj, rfl, rfl, hb2⟩ := hrel
            generalize wr = u at *
            have dl := duL_len P F (k : Int) j
            by_cases hjn : j < n
            · obtain ⟨bq, off, ea, hbb, x0, x1, x2⟩ := (HH.out u hb2.out).at hjn
              subst ea
              have hsr := HS.out j hjn
              have i1 : (j : Int) < (n : Int) := by omega
              have i2 : IntKind.i64.wrap ((j : Int) + 1) = (j : Int) + 1 := by rw [IntKind.wrap_i64]; omega
              have i3 : 0 ≤ (j : Int) := by omega
              have DT := ldue (N j) (P j) (F j) (k : Int) u hsr (by omega)
              rw [du_dt hsr] at DT
              obtain ⟨d, ed⟩ : ∃ d, dtB (P j) (F j) (k : Int) = d := ⟨_, rfl⟩
              rw [ed] at DT
              replace DT := Lib.hid DT
              have i4 : IntKind.i64.wrap (((duL P F (k : Int) j).length : Int) + 1) = ((duL P F (k : Int) j).length : Int) + 1 := by rw [IntKind.wrap_i64]; omega
              have D0 := Lib.hid (show (duL P F (k : Int) (j + 1)).length = if d = true then (duL P F (k : Int) j).length + 1 else (duL P F (k : Int) j).length by
                cases d
                · rw [duL_no ed]; rfl
                · rw [duL_yes ed, List.length_append]; rfl)
              obtain ⟨dn, edn⟩ : ∃ z, (duL P F (k : Int) j).length = z := ⟨_, rfl⟩
              rw [edn] at i4 D0 dl ⊢
              clear ed edn
              go_wp2_with fail
              refine DT.out.mono ?_
              rintro e u4 ⟨rfl, hb4⟩
              have hb5 := Lib.hid (show Below V.heap.size V u4 from hb2.out.trans (hb4.mono hb2.out.size))
              clear hb4 DT
              cases d
              · go_wp2
                go_roundw
                case rel => exact ⟨j + 1, by omega, by rw [D0.out]; rfl, by first | rfl | go_num, hb5⟩
                case measure => simp [intOf]; omega
              · go_wp2
                go_roundw
                case rel => exact ⟨j + 1, by omega, by rw [D0.out]; first | rfl | go_num, by first | rfl | go_num, hb5⟩
                case measure => simp [intOf]; omega
            · obtain rfl : j = n := by omega
              have i1 : ¬ (j : Int) < (j : Int) := by omega
              obtain ⟨dn, edn⟩ : ∃ z, (duL P F (k : Int) j).length = z := ⟨_, rfl⟩
              rw [edn] at EA EM dl ⊢
              clear edn
              by_cases y : bm < dn
              · rw [if_pos y] at EA EM
                have y1 : (bm : Int) < (dn : Int) := by omega
                go_wp2
                go_roundw
                case rel => exact ⟨k + 1, by omega, by rw [EA.out], by rw [EM.out], by first | rfl | go_num, hb2⟩
                case measure => simp [intOf]; omega
              · rw [if_neg y] at EA EM
                have y1 : ¬ (bm : Int) < (dn : Int) := by omega
                go_wp2
                go_roundw
                case rel => exact ⟨k + 1, by omega, by rw [EA.out], by rw [EM.out], by first | rfl | go_num, hb2⟩
                case measure => simp [intOf]; omega
        · obtain rfl : k = tm := by omega
          by_cases y : (k : Int) < ticks
          · have j1 : decide ((k : Int) < ticks) = true := decide_eq_true y
            have j4 : decide ((k : Int) < 2000) = false := decide_eq_false (by omega)
            go_wp2_with fail
            go_meet
            case rel => exact ⟨rfl, rfl, hb⟩
          · have j1 : decide ((k : Int) < ticks) = false := decide_eq_false y
            go_wp2_with fail
            go_meet
            case rel => exact ⟨rfl, rfl, hb⟩
  case rest =>
    obtain ⟨rfl, rfl, kc⟩ := hcut
    clear k2 eA eM HH ep
    have r7 : (A != A) = false := by simp
    have r8 : (M != M) = false := by simp
    obtain ⟨c0, c1⟩ := HC.out wc kc.out
    go_wp2_with fail
    refine (SP.out wc kc.out).mono ?_
    rintro e u3 ⟨⟨xs, rfl, hS⟩, hb⟩
    obtain ⟨az, cs, exs, hcs, hPs⟩ := hS.pl
    obtain ⟨K, eK⟩ : ∃ K, (if spB m X per = true then m else 0) = K := ⟨_, rfl⟩
    rw [eK] at exs hcs hPs
    have EK := Lib.hid eK
    subst exs
    have XP := Lib.hid (fun u (k : Below u3.heap.size u3 u) => hPs.below k)
    have k3 := Lib.hid (show Below V.heap.size V u3 from kc.out.trans (hb.mono kc.out.size))
    have hK : K ≤ 300 := by rw [← eK]; split <;> omega
    clear hb hS hPs SP kc c0 c1 r7 r8 eK
    go_upto_block 4 with (fail)
    go_cut [15] from 16 (fun s15 u => Hid (Sl u3.heap.size s15 (wtN m per) X (fun _ => per) (spF per.toNat) u) ∧ Hid (Below u3.heap.size u3 u))
    case first =>
      clear XP LV
      by_cases z : per < 1
      · have hw0 : wtN m per = 0 := if_neg (by omega)
        have y0 : decide (0 < per) = false := decide_eq_false (by omega)
        have HW0 := Lib.hid hw0
        clear EK hw0
        go_wp2_with fail
        go_loopw [15, 16] (fun x i v => x = .slice none 0 0 ∧ i = .int .i64 0 ∧ Hid (Below u3.heap.size u3 v)) (fun _ _ _ => 0)
        case atStart => exact ⟨rfl, rfl, Lib.hid (Below.refl _ _)⟩
        case round =>
          obtain ⟨rfl, rfl, hb⟩ := hrel
          generalize wr = v at *
          have kv := Lib.hid (show Below V.heap.size V v from k3.out.trans (hb.out.mono k3.out.size))
          obtain ⟨c0, c1⟩ := HC.out v kv.out
          have hX := Lib.hid (Sl.nil u3.heap.size X (fun _ => per) (spF per.toNat) v)
          by_cases z2 : 0 < m
          · have y2 : decide (0 < (m : Int)) = true := decide_eq_true (by omega)
            have y3 : (0 : Int) < (m : Int) := by omega
            go_wp2_with fail
            go_meet
            case rel => rw [HW0.out]; exact ⟨hX, hb⟩
          · have y2 : decide (0 < (m : Int)) = false := decide_eq_false (by omega)
            have y3 : ¬ (0 : Int) < (m : Int) := by omega
            go_wp2_with fail
            go_meet
            case rel => rw [HW0.out]; exact ⟨hX, hb⟩
      have hp1 : 1 ≤ per := by omega
      have SPR := Lib.hid (fun (k : Nat) => show Int.tmod (k : Int) per = spF per.toNat k ∧ 0 ≤ spF per.toNat k ∧ spF per.toNat k < per by
        have h1 := sp_right (p := per.toNat) (by omega) k
        refine ⟨?_, by omega⟩
        rw [Int.tmod_eq_emod_of_nonneg (by omega)]
        unfold spF
        rw [Int.natCast_emod, Int.toNat_of_nonneg (by omega)])
      obtain ⟨G, eG⟩ : ∃ G, spF per.toNat = G := ⟨_, rfl⟩
      have EG := Lib.hid eG
      rw [eG] at SPR
      clear eG
      have hw0 : wtN m per = m := if_pos (by omega)
      have y0 : decide (0 < per) = true := decide_eq_true (by omega)
      have y0' : (0 : Int) < per := by omega
      have HW0 := Lib.hid hw0
      obtain ⟨i0, hi, hz0, hz1, hz2⟩ := xs_inf
      replace hi := Lib.hid hi
      replace hz0 := Lib.hid hz0
      replace hz1 := Lib.hid hz1
      have hzb := Lib.hid hz2
      clear hz2
      clear EK hw0 z
      go_wp2_with fail
      go_loopw [15, 16] (fun x i v => ∃ k : Nat, k ≤ m ∧ i = .int .i64 (k : Int) ∧ Hid (Sl u3.heap.size x k X (fun _ => per) G v) ∧ Hid (Below u3.heap.size u3 v)) (fun _ i _ => m - (intOf i).toNat)
      case atStart => exact ⟨0, by omega, rfl, Lib.hid (Sl.nil _ _ _ _ _), Lib.hid (Below.refl _ _)⟩
      case round =>
        obtain ⟨k, hk, rfl, hX, hb⟩ := hrel
        generalize wr = v at *
        have kv := Lib.hid (show Below V.heap.size V v from k3.out.trans (hb.out.mono k3.out.size))
        obtain ⟨c0, c1⟩ := HC.out v kv.out
        by_cases hlt : k < m
        · obtain ⟨b, off, ea, hbb, x0⟩ := RN.out v kv.out k hlt
          subst ea
          have j0 : (k : Int) < (m : Int) := by omega
          have j1 : decide ((k : Int) < (m : Int)) = true := decide_eq_true j0
          have j2 : IntKind.i64.wrap ((k : Int) + 1) = (k : Int) + 1 := by rw [IntKind.wrap_i64]; omega
          have j3 : 0 ≤ (k : Int) := by omega
          have hk0 : 0 < m := by omega
          have p0 : ¬ per = 0 := by omega
          have p1 : (per == 0) = false := beq_eq_false_iff_ne.2 p0
          obtain ⟨tm, sb⟩ := SPR.out k
          have w1 : IntKind.i64.wrap (G k) = G k := by rw [IntKind.wrap_i64]; omega
          go_upto_region 25 with (fail)
          refine region_moves (fun u => u.cell? ⟨C, 0, none⟩ = some (.slice (some ⟨b, off, none⟩) m cap2) ∧ u.cell? ⟨C, 1, none⟩ = some (.int .i64 per) ∧ u.cell? ⟨b, off + k, none⟩ = some (.int .i64 (X k))) [] [(.free, 0), (.free, 1), (.take, 2), (.free, 3), (.free, 4), (.take, 5), (.free, 6), (.take, 7), (.free, 8), (.free, 9), (.take, 10), (.free, 11), (.free, 12), (.step, 13), (.step, 14), (.free, 15)] _ (by kernel_rfl) (by kernel_rfl) (by kernel_rfl) (by kernel_rfl) (by decide) rfl (fun _ _ _ _ _ h => h) ?_
          simp only [List.filterMap_cons, List.filterMap_nil, List.getElem?_toArray, List.getElem?_cons_zero, List.getElem?_cons_succ, Option.map_some]
          iterate 2
            first
              | (refine mv_free ?_ (Or.inl ⟨by rfl, ?_⟩) (⟨c0, c1, x0⟩) ?_
                 rotate_left 1
                 · intro u
                   go_simp
                   try simp only [d1]
                   try simp only [d2]
                   try simp only [d3]
                   try simp only [d1]
                   try simp only [d2]
                   try simp only [d3]
                   try with_reducible rfl
                 simp only [Act.put, List.setIfInBounds_toArray, List.set_cons_zero, List.set_cons_succ])
              | (refine mv_free _ (Or.inr ⟨by rfl, rfl⟩) (⟨c0, c1, x0⟩) ?_
                 simp only [Act.put, List.setIfInBounds_toArray, List.set_cons_zero, List.set_cons_succ])
          iterate 1
            first
              | (refine mv_take ?_ (Or.inl ⟨by rfl, ?_⟩) (⟨c0, c1, x0⟩) ?_
                 rotate_left 1
                 · intro u hu
                   (try dsimp only at hu)
                   go_simp
                   try with_reducible rfl
                 simp only [Act.put, List.setIfInBounds_toArray, List.set_cons_zero, List.set_cons_succ])
              | (refine mv_take _ (Or.inr ⟨by rfl, rfl⟩) (⟨c0, c1, x0⟩) ?_
                 simp only [Act.put, List.setIfInBounds_toArray, List.set_cons_zero, List.set_cons_succ])
          iterate 2
            first
              | (refine mv_free ?_ (Or.inl ⟨by rfl, ?_⟩) (⟨c0, c1, x0⟩) ?_
                 rotate_left 1
                 · intro u
                   go_simp
                   try simp only [d1]
                   try simp only [d2]
                   try simp only [d3]
                   try simp only [d1]
                   try simp only [d2]
                   try simp only [d3]
                   try with_reducible rfl
                 simp only [Act.put, List.setIfInBounds_toArray, List.set_cons_zero, List.set_cons_succ])
              | (refine mv_free _ (Or.inr ⟨by rfl, rfl⟩) (⟨c0, c1, x0⟩) ?_
                 simp only [Act.put, List.setIfInBounds_toArray, List.set_cons_zero, List.set_cons_succ])
          iterate 1
            first
              | (refine mv_take ?_ (Or.inl ⟨by rfl, ?_⟩) (⟨c0, c1, x0⟩) ?_
                 rotate_left 1
                 · intro u hu
                   (try dsimp only at hu)
                   go_simp
                   try with_reducible rfl
                 simp only [Act.put, List.setIfInBounds_toArray, List.set_cons_zero, List.set_cons_succ])
              | (refine mv_take _ (Or.inr ⟨by rfl, rfl⟩) (⟨c0, c1, x0⟩) ?_
                 simp only [Act.put, List.setIfInBounds_toArray, List.set_cons_zero, List.set_cons_succ])
          iterate 1
            first
              | (refine mv_free ?_ (Or.inl ⟨by rfl, ?_⟩) (⟨c0, c1, x0⟩) ?_
                 rotate_left 1
                 · intro u
                   go_simp
                   try simp only [d1]
                   try simp only [d2]
                   try simp only [d3]
                   try simp only [d1]
                   try simp only [d2]
                   try simp only [d3]
                   try with_reducible rfl
                 simp only [Act.put, List.setIfInBounds_toArray, List.set_cons_zero, List.set_cons_succ])
              | (refine mv_free _ (Or.inr ⟨by rfl, rfl⟩) (⟨c0, c1, x0⟩) ?_
                 simp only [Act.put, List.setIfInBounds_toArray, List.set_cons_zero, List.set_cons_succ])
          iterate 1
            first
              | (refine mv_take ?_ (Or.inl ⟨by rfl, ?_⟩) (⟨c0, c1, x0⟩) ?_
                 rotate_left 1
                 · intro u hu
                   (try dsimp only at hu)
                   go_simp
                   try with_reducible rfl
                 simp only [Act.put, List.setIfInBounds_toArray, List.set_cons_zero, List.set_cons_succ])
              | (refine mv_take _ (Or.inr ⟨by rfl, rfl⟩) (⟨c0, c1, x0⟩) ?_
                 simp only [Act.put, List.setIfInBounds_toArray, List.set_cons_zero, List.set_cons_succ])
          iterate 2
            first
              | (refine mv_free ?_ (Or.inl ⟨by rfl, ?_⟩) (⟨c0, c1, x0⟩) ?_
                 rotate_left 1
                 · intro u
                   go_simp
                   try simp only [d1]
                   try simp only [d2]
                   try simp only [d3]
                   try simp only [d1]
                   try simp only [d2]
                   try simp only [d3]
                   try with_reducible rfl
                 simp only [Act.put, List.setIfInBounds_toArray, List.set_cons_zero, List.set_cons_succ])
              | (refine mv_free _ (Or.inr ⟨by rfl, rfl⟩) (⟨c0, c1, x0⟩) ?_
                 simp only [Act.put, List.setIfInBounds_toArray, List.set_cons_zero, List.set_cons_succ])
          iterate 1
            first
              | (refine mv_take ?_ (Or.inl ⟨by rfl, ?_⟩) (⟨c0, c1, x0⟩) ?_
                 rotate_left 1
                 · intro u hu
                   (try dsimp only at hu)
                   go_simp
                   try with_reducible rfl
                 simp only [Act.put, List.setIfInBounds_toArray, List.set_cons_zero, List.set_cons_succ])
              | (refine mv_take _ (Or.inr ⟨by rfl, rfl⟩) (⟨c0, c1, x0⟩) ?_
                 simp only [Act.put, List.setIfInBounds_toArray, List.set_cons_zero, List.set_cons_succ])
          iterate 2
            first
              | (refine mv_free ?_ (Or.inl ⟨by rfl, ?_⟩) (⟨c0, c1, x0⟩) ?_
                 rotate_left 1
                 · intro u
                   go_simp
                   try simp only [d1]
                   try simp only [d2]
                   try simp only [d3]
                   try simp only [d1]
                   try simp only [d2]
                   try simp only [d3]
                   try with_reducible rfl
                 simp only [Act.put, List.setIfInBounds_toArray, List.set_cons_zero, List.set_cons_succ])
              | (refine mv_free _ (Or.inr ⟨by rfl, rfl⟩) (⟨c0, c1, x0⟩) ?_
                 simp only [Act.put, List.setIfInBounds_toArray, List.set_cons_zero, List.set_cons_succ])
          refine mv_step (fun K hK => ?_)
          go_simp
          have hA : Below v.heap.size v (v.alloc (.cells #[.int .i64 (X k), .int .i64 per, .int .i64 (G k)] 30)).drew := ((Below.refl v.heap.size v).alloc (Nat.le_refl _) _).drew
          have hc : ∀ j u, [Value.int .i64 (X k), .int .i64 per, .int .i64 (G k)][j]? = some u → (v.alloc (.cells #[.int .i64 (X k), .int .i64 per, .int .i64 (G k)] 30)).drew.cell? ((⟨v.heap.size, 0, none⟩ : Addr).add j) = some u := fun j u hu => by
            match j, hu with
            | 0, hu => injection hu with hu; subst hu; go_simp
            | 1, hu => injection hu with hu; subst hu; go_simp
            | 2, hu => injection hu with hu; subst hu; go_simp
            | j + 3, hu => cases hu
          have hz := Lib.hid (show u3.heap.size ≤ v.heap.size from hb.out.size)
          generalize (v.alloc (.cells #[.int .i64 (X k), .int .i64 per, .int .i64 (G k)] 30)).drew = vd at *
          have kdA := Lib.hid (show Below V.heap.size V vd from kv.out.trans (hA.mono kv.out.size))
          have hX1 := Lib.hid (hX.out.bel hA)
          have hz2 := Lib.hid (show u3.heap.size ≤ vd.heap.size from Nat.le_trans hz.out hA.size)
          have hb1 := Lib.hid (show Below u3.heap.size u3 vd from hb.out.trans (hA.mono hz.out))
          obtain ⟨c0, c1⟩ := HC.out _ kdA.out
          have x1 := (hA.cell (p := ⟨b, off + k, none⟩) hbb).trans x0
          have h1 := show ∀ u ∈ [Value.int .i64 (X k), .int .i64 per, .int .i64 (G k)], u.oneCell' = true from fun u hu => by
            simp only [List.mem_cons, List.not_mem_nil, or_false] at hu
            rcases hu with rfl | rfl | rfl <;> rfl
          refine hK.out _ _ _ (fun u hu => hu) (⟨c0, c1, x1⟩) ?_
          clear hK K
          refine mv_step (fun K hK => ?_)
          refine step_append_lies vd rfl (.tmp 91) (.tmp 104) _ rfl u3.heap.size 30 i0 _ 3 24 Try.underlying22 hi.out hz0.out hz1.out hzb.out rfl (by decide) u15 k (plL X (fun _ => per) G k) rfl hX1.out ⟨_, 0, none⟩ 1 1 [.int .i64 (X k), .int .i64 per, .int .i64 (G k)] rfl rfl hc h1 (by decide) (by unfold maxLen; omega) (by omega) hz2.out _ rfl ?_
          intro g cp w2 hX2 hg2 hb2 hlt2
          have hX3 := Lib.hid (show Sl u3.heap.size (.slice (some ⟨g, 0, none⟩) (k + 1) cp) (k + 1) X (fun _ => per) G w2 by unfold Sl; rw [plL_snoc]; exact hX2)
          have hb3 := grown_bel hX1.out hg2 hz2.out
          have hb4 := Lib.hid (hb1.out.trans hb3)
          have kv4 := Lib.hid (show Below V.heap.size V w2 from k3.out.trans (hb4.out.mono k3.out.size))
          obtain ⟨c0, c1⟩ := HC.out w2 kv4.out
          obtain ⟨b', off', ea, -, x2⟩ := RN.out w2 kv4.out k hlt
          injection ea with ea
          injection ea with e1 e2
          subst e1 e2
          clear hX2 hg2 hb2 hlt2 hb3 hA kdA hX1 hb1 hc h1 hz hz2 kv hb hX
          refine hK.out _ _ _ (fun u hu => hu) (⟨c0, c1, x2⟩) ?_
          clear hK K
          iterate 1
            first
              | (refine mv_free ?_ (Or.inl ⟨by rfl, ?_⟩) (⟨c0, c1, x2⟩) ?_
                 rotate_left 1
                 · intro u
                   go_simp
                   try simp only [d1]
                   try simp only [d2]
                   try simp only [d3]
                   try simp only [d1]
                   try simp only [d2]
                   try simp only [d3]
                   try with_reducible rfl
                 simp only [Act.put, List.setIfInBounds_toArray, List.set_cons_zero, List.set_cons_succ])
              | (refine mv_free _ (Or.inr ⟨by rfl, rfl⟩) (⟨c0, c1, x2⟩) ?_
                 simp only [Act.put, List.setIfInBounds_toArray, List.set_cons_zero, List.set_cons_succ])
          refine mv_done ?_
          go_wp2
          go_roundw
          case rel => exact ⟨k + 1, by omega, by first | rfl | go_num, hX3, hb4⟩
          case measure => simp [intOf]; omega
        · obtain rfl : k = m := by omega
          have j0 : ¬ (k : Int) < (k : Int) := by omega
          have j1 : decide ((k : Int) < (k : Int)) = false := decide_eq_false j0
          go_wp2_with fail
          go_meet
          case rel => rw [HW0.out, EG.out]; exact ⟨hX, hb⟩
    case rest =>
      obtain ⟨hS, kd⟩ := hcut
      obtain ⟨aw, cw, exw, hcw, hPw⟩ := hS.out.pl
      subst exw
      have kv := Lib.hid (show Below V.heap.size V wc from k3.out.trans (kd.out.mono k3.out.size))
      have hWN : wtN m per ≤ 300 := by unfold wtN; split <;> omega
      have RT := lright aw cw (wtN m per) X (fun _ => per) (spF per.toNat) wc hPw (by omega)
      rw [wt_right] at RT
      obtain ⟨q, eq⟩ : ∃ q, spB m X per = q := ⟨_, rfl⟩
      rw [eq] at RT
      replace RT := Lib.hid RT
      have XW := Lib.hid (fun u (k : Below wc.heap.size wc u) => hPw.below k)
      clear hS hPw RN
      cases q
      · have hK0 : K = 0 := by rw [← EK.out, eq]; rfl
        rw [hK0]
        clear eq EK hK0 hK hcs XP XW
        go_wp2_with fail
        refine RT.out.mono ?_
        rintro e u4 ⟨rfl, hb⟩
        have k4 := Lib.hid (show Below V.heap.size V u4 from kv.out.trans (hb.mono kv.out.size))
        clear hb RT
        go_wp2_with fail
        refine (LV.out _).mono ?_
        rintro e u9 ⟨rfl, hb9⟩
        have hb8 := Lib.hid (show Below w.heap.size w u9 from HW.out _ (k4.out.trans (hb9.mono k4.out.size)))
        clear hb9
        go_wp2
        go_ret
        exact ⟨rfl, hb8.out⟩
      · have hs : 1 ≤ per ∧ rtB m X (fun _ => per) (spF per.toNat) = true := by unfold spB at eq; simpa using eq
        have hm2 := (of_decide_eq_true hs.2)
        have hm3 : 0 < m ∧ m < 33 := ⟨hm2.1, hm2.2.1⟩
        have hKm : K = m := by rw [← EK.out, eq]; rfl
        have hWm : wtN m per = m := if_pos hs.1
        have p1000 : per ≤ 1000 := by
          have h2 : 0 ≤ X 0 ∧ X 0 ≤ 255 ∧ 1 ≤ per ∧ per ≤ 1000 ∧ 0 ≤ spF per.toNat 0 ∧ spF per.toNat 0 < per := of_decide_eq_true (hm2.2.2 0 hm3.1).1
          omega
        rw [hKm] at hcs XP ⊢
        rw [hWm] at hcw XW RT ⊢
        have BU := Lib.hid (fun u (k : Below u3.heap.size u3 u) => bbusy az cs m X (fun _ => per) (spF per.toNat) 2000 u (XP.out u k) hcs (by omega) (by decide))
        obtain ⟨z0, z1⟩ := sp_most hs.1 hs.2
        obtain ⟨M2, eM2⟩ : ∃ z, bsM m X (fun _ => per) (spF per.toNat) 2000 = z := ⟨_, rfl⟩
        obtain ⟨A2, eA2⟩ : ∃ z, bsA m X (fun _ => per) (spF per.toNat) 2000 = z := ⟨_, rfl⟩
        rw [eM2] at z0 z1
        replace BU := BU.out
        rw [eM2, eA2] at BU
        replace BU := Lib.hid BU
        obtain ⟨G, eG⟩ : ∃ G, spF per.toNat = G := ⟨_, rfl⟩
        rw [eG] at XP XW
        have hp1 := hs.1
        have ZZ := Lib.hid (And.intro z0 (And.intro z1 (And.intro hp1 (And.intro p1000 hm3))))
        clear eq EK hKm hWm hWN hK hs hm2 eM2 eA2 eG hcs hcw z0 z1 hp1 p1000 hm3
        go_wp2_with fail
        refine RT.out.mono ?_
        rintro e u4 ⟨rfl, hb⟩
        have k4 := Lib.hid (show Below V.heap.size V u4 from kv.out.trans (hb.mono kv.out.size))
        have d4 := Lib.hid (show Below u3.heap.size u3 u4 from kd.out.trans (hb.mono kd.out.size))
        replace XW := Lib.hid (fun u (k : Below u4.heap.size u4 u) => XW.out u (hb.trans (k.mono hb.size)))
        replace XP := Lib.hid (fun u (k : Below u4.heap.size u4 u) => XP.out u (d4.out.trans (k.mono d4.out.size)))
        clear hb RT kv kd
        have e0 : ((m : Int) != (m : Int)) = false := by simp
        go_wp2_with fail
        go_loopw [17] (fun i v => ∃ k : Nat, k ≤ m ∧ i = .int .i64 (k : Int) ∧ Hid (Below u4.heap.size u4 v)) (fun i _ => m - (intOf i).toNat)
        case atStart => exact ⟨0, Nat.zero_le _, rfl, Lib.hid (Below.refl _ _)⟩
        case round =>
          obtain ⟨k, hk, rfl, hb⟩ := hrel
          generalize wr = v at *
          by_cases hlt : k < m
          · have hm3 := ZZ.out.2.2.2.2
            obtain ⟨b1, o1, ea, hb1, x0, x1, x2⟩ := (XP.out v hb.out).at hlt
            obtain ⟨b2, o2, ea2, hb2, y0, y1, y2⟩ := (XW.out v hb.out).at hlt
            subst ea ea2
            have j0 : (k : Int) < (m : Int) := by omega
            have j2 : IntKind.i64.wrap ((k : Int) + 1) = (k : Int) + 1 := by rw [IntKind.wrap_i64]; omega
            have j3 : 0 ≤ (k : Int) := by omega
            have hbd := Lib.hid (show Below u4.heap.size u4 v.drew from hb.out.drew)
            go_upto_region 33 with (fail)
            refine region_moves (fun u => u.cell? ⟨b1, o1 + k * 3, none⟩ = some (.int .i64 (X k)) ∧ u.cell? ⟨b1, o1 + k * 3 + 1, none⟩ = some (.int .i64 per) ∧ u.cell? ⟨b1, o1 + k * 3 + 2, none⟩ = some (.int .i64 (G k)) ∧ u.cell? ⟨b2, o2 + k * 3, none⟩ = some (.int .i64 (X k)) ∧ u.cell? ⟨b2, o2 + k * 3 + 1, none⟩ = some (.int .i64 per) ∧ u.cell? ⟨b2, o2 + k * 3 + 2, none⟩ = some (.int .i64 (G k))) [] [(.free, 0), (.free, 1), (.free, 2), (.take, 3), (.free, 4), (.free, 5), (.free, 6), (.take, 7), (.free, 8)] _ (by kernel_rfl) (by kernel_rfl) (by kernel_rfl) (by kernel_rfl) (by decide) rfl (fun _ _ _ _ _ h => h) ?_
            simp only [List.filterMap_cons, List.filterMap_nil, List.getElem?_toArray, List.getElem?_cons_zero, List.getElem?_cons_succ, Option.map_some]
            iterate 3
              first
                | (refine mv_free ?_ (Or.inl ⟨by rfl, ?_⟩) (⟨x0, x1, x2, y0, y1, y2⟩) ?_
                   rotate_left 1
                   · intro u
                     go_simp
                     try simp only [d1]
                     try simp only [d2]
                     try simp only [d3]
                     try simp only [d1]
                     try simp only [d2]
                     try simp only [d3]
                     try with_reducible rfl
                   simp only [Act.put, List.setIfInBounds_toArray, List.set_cons_zero, List.set_cons_succ])
                | (refine mv_free _ (Or.inr ⟨by rfl, rfl⟩) (⟨x0, x1, x2, y0, y1, y2⟩) ?_
                   simp only [Act.put, List.setIfInBounds_toArray, List.set_cons_zero, List.set_cons_succ])
            iterate 1
              first
                | (refine mv_take ?_ (Or.inl ⟨by rfl, ?_⟩) (⟨x0, x1, x2, y0, y1, y2⟩) ?_
                   rotate_left 1
                   · intro u hu
                     (try dsimp only at hu)
                     go_simp
                     try with_reducible rfl
                   simp only [Act.put, List.setIfInBounds_toArray, List.set_cons_zero, List.set_cons_succ])
                | (refine mv_take _ (Or.inr ⟨by rfl, rfl⟩) (⟨x0, x1, x2, y0, y1, y2⟩) ?_
                   simp only [Act.put, List.setIfInBounds_toArray, List.set_cons_zero, List.set_cons_succ])
            iterate 3
              first
                | (refine mv_free ?_ (Or.inl ⟨by rfl, ?_⟩) (⟨x0, x1, x2, y0, y1, y2⟩) ?_
                   rotate_left 1
                   · intro u
                     go_simp
                     try simp only [d1]
                     try simp only [d2]
                     try simp only [d3]
                     try simp only [d1]
                     try simp only [d2]
                     try simp only [d3]
                     try with_reducible rfl
                   simp only [Act.put, List.setIfInBounds_toArray, List.set_cons_zero, List.set_cons_succ])
                | (refine mv_free _ (Or.inr ⟨by rfl, rfl⟩) (⟨x0, x1, x2, y0, y1, y2⟩) ?_
                   simp only [Act.put, List.setIfInBounds_toArray, List.set_cons_zero, List.set_cons_succ])
            iterate 1
              first
                | (refine mv_take ?_ (Or.inl ⟨by rfl, ?_⟩) (⟨x0, x1, x2, y0, y1, y2⟩) ?_
                   rotate_left 1
                   · intro u hu
                     (try dsimp only at hu)
                     go_simp
                     try with_reducible rfl
                   simp only [Act.put, List.setIfInBounds_toArray, List.set_cons_zero, List.set_cons_succ])
                | (refine mv_take _ (Or.inr ⟨by rfl, rfl⟩) (⟨x0, x1, x2, y0, y1, y2⟩) ?_
                   simp only [Act.put, List.setIfInBounds_toArray, List.set_cons_zero, List.set_cons_succ])
            iterate 1
              first
                | (refine mv_free ?_ (Or.inl ⟨by rfl, ?_⟩) (⟨x0, x1, x2, y0, y1, y2⟩) ?_
                   rotate_left 1
                   · intro u
                     go_simp
                     try simp only [d1]
                     try simp only [d2]
                     try simp only [d3]
                     try simp only [d1]
                     try simp only [d2]
                     try simp only [d3]
                     try with_reducible rfl
                   simp only [Act.put, List.setIfInBounds_toArray, List.set_cons_zero, List.set_cons_succ])
                | (refine mv_free _ (Or.inr ⟨by rfl, rfl⟩) (⟨x0, x1, x2, y0, y1, y2⟩) ?_
                   simp only [Act.put, List.setIfInBounds_toArray, List.set_cons_zero, List.set_cons_succ])
            refine mv_done ?_
            go_wp2
            go_roundw
            case rel => exact ⟨k + 1, by omega, by first | rfl | go_num, hbd⟩
            case measure => simp [intOf]; omega
          · have hm3 := ZZ.out.2.2.2.2
            obtain rfl : k = m := by omega
            have j0 : ¬ (k : Int) < (k : Int) := by omega
            have kf := Lib.hid (show Below V.heap.size V v from k4.out.trans (hb.out.mono k4.out.size))
            have df := Lib.hid (show Below u3.heap.size u3 v from d4.out.trans (hb.out.mono d4.out.size))
            go_wp2_with fail
            refine (BU.out v df.out).mono ?_
            rintro e u5 ⟨rfl, hb5⟩
            have k5 := Lib.hid (show Below V.heap.size V u5 from kf.out.trans (hb5.mono kf.out.size))
            clear hb5
            obtain ⟨c0, c1⟩ := HC.out u5 k5.out
            obtain ⟨z0, z1, hp1, p1000, hm3⟩ := ZZ.out
            have v1 : IntKind.i64.wrap ((k : Int) + per) = (k : Int) + per := by rw [IntKind.wrap_i64]; omega
            have v2 : IntKind.i64.wrap ((k : Int) + per - 1) = (k : Int) + per - 1 := by rw [IntKind.wrap_i64]; omega
            have v3 : Int.tdiv ((k : Int) + per - 1) per = ((k : Int) + per - 1) / per := Int.tdiv_eq_ediv_of_nonneg (by omega)
            have v4 : 0 ≤ ((k : Int) + per - 1) / per := Int.ediv_nonneg (by omega) (by omega)
            have v5 : ((k : Int) + per - 1) / per ≤ (k : Int) + per - 1 := Int.ediv_le_self _ (by omega)
            have v6 : IntKind.i64.wrap (((k : Int) + per - 1) / per) = ((k : Int) + per - 1) / per := by rw [IntKind.wrap_i64]; omega
            have p0 : ¬ per = 0 := by omega
            have p1 : (per == 0) = false := beq_eq_false_iff_ne.2 p0
            have v7 : decide (M2 ≤ ((k : Int) + per - 1) / per) = true := decide_eq_true z0
            clear v4 v5
            generalize ((k : Int) + per - 1) / per = R at *
            go_wp2_with fail
            refine (LV.out _).mono ?_
            rintro e u9 ⟨rfl, hb9⟩
            have hb8 := Lib.hid (show Below w.heap.size w u9 from HW.out _ (k5.out.trans (hb9.mono k5.out.size)))
            clear hb9
            go_wp2
            go_ret
            exact ⟨rfl, hb8.out⟩
end Go.Proofs.Ytcpmdgbogdikiaa
