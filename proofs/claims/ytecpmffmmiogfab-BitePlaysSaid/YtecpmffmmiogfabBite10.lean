/- The law BiteFails; walked. -/
import Derived.Test.YtecpmffmmiogfabBite9
namespace Go.Proofs.Ytecpmffmmiogfab
open Go.ChangeShapes Go.WideShapes Go.ChangeAt Go.RowKit
set_option linter.unusedVariables false
set_option linter.unusedSimpArgs false
theorem NewK.next {p q tb tc n : Nat} {NM : Nat → ByteArray} {J : Nat → Nat → Int} {s s' : BrSt} {w u u' : World} (h : NewK p q tb tc n NM J s w u) (r : BrR p q tb tc n NM J s' u') (k : Bes2 p q u u') : NewK p q tb tc n NM J s' w u' := ⟨r, h.b.trans (k.below h.p h.q h.b.size), h.p, h.q, h.t⟩
theorem bts_lo {w : World} {t : Option Addr} {rows : List (List Value)} (h : TabS [.str, .num .i64, .num .i64, .num .i64, .num .i64, .num .i64, .num .i64] w t rows) : ∀ i, i < rows.length → -9223372036854775808 ≤ btJ rows i 2 := by
  intro i hi
  obtain ⟨b, off, r, ea, hb, hr, hfl, hcell⟩ := h.at hi
  obtain ⟨s, _, rfl, hs, hfl⟩ := hfl
  obtain ⟨x1, _, rfl, _, hfl⟩ := hfl
  obtain ⟨x2, _, rfl, hw, hfl⟩ := hfl
  have q2 : btJ rows i 2 = x2 := by unfold btJ; rw [hr]; rfl
  rw [q2]
  have := (show (Lit.int .i64 x2).wf = true from hw)
  simp [Lit.wf] at this
  have m : IntKind.i64.min = -9223372036854775808 := rfl
  omega
theorem bts_hi {w : World} {t : Option Addr} {rows : List (List Value)} (h : TabS [.str, .num .i64, .num .i64, .num .i64, .num .i64, .num .i64, .num .i64] w t rows) : ∀ i, i < rows.length → btJ rows i 2 ≤ 9223372036854775807 := by
  intro i hi
  obtain ⟨b, off, r, ea, hb, hr, hfl, hcell⟩ := h.at hi
  obtain ⟨s, _, rfl, hs, hfl⟩ := hfl
  obtain ⟨x1, _, rfl, _, hfl⟩ := hfl
  obtain ⟨x2, _, rfl, hw, hfl⟩ := hfl
  have q2 : btJ rows i 2 = x2 := by unfold btJ; rw [hr]; rfl
  rw [q2]
  have := (show (Lit.int .i64 x2).wf = true from hw)
  simp [Lit.wf] at this
  have m : IntKind.i64.max = 9223372036854775807 := rfl
  omega
/-- The results where all before i have r. -/
def rsK (r : Int) (i j : Nat) : Int := if j < i then r else if j = i then 1 else 0
theorem rsK_end (r c g : Int) (i : Nat) : brEnd ⟨i, c, g, rsK r i⟩ r = ⟨i + 1, 0, 0, rsK r (i + 1)⟩ := by
  show (⟨i + 1, 0, 0, fun j => if j = i then r else if j = i + 1 then 1 else rsK r i j⟩ : BrSt) = _
  congr 1
  funext j
  unfold rsK
  by_cases h1 : j = i
  · rw [if_pos h1, if_pos (by omega)]
  · rw [if_neg h1]
    by_cases h2 : j = i + 1
    · rw [if_pos h2, if_neg (by omega), if_pos h2]
    · rw [if_neg h2]
      by_cases h3 : j < i
      · rw [if_pos h3, if_pos (by omega)]
      · rw [if_neg h3, if_neg h1, if_neg (by omega), if_neg h2]
theorem rsK_0 (r : Int) : s0 = ⟨0, 0, 0, rsK r 0⟩ := by
  show (⟨0, 0, 0, fun i => if i = 0 then 1 else 0⟩ : BrSt) = _
  congr 1
/-- A run behind k answers to test i that aren't fine. -/
def fS (J : Nat → Nat → Int) (i k : Nat) : BrSt := if (k : Int) < J i 6 then ⟨i, k, 0, rsK 3 i⟩ else ⟨i + 1, 0, 0, rsK 3 (i + 1)⟩
theorem fS_step {n : Nat} {NM : Nat → ByteArray} {J : Nat → Nat → Int} (hj : JOk n NM J) {i k : Nat} (hi : i < n) (hk : (k : Int) < J i 6) : brStep n J (J i 2 - 1) (fS J i k) = fS J i (k + 1) := by
  have h5 := hj.m i hi
  unfold fS
  rw [if_pos hk]
  unfold brStep
  show (if i < n then (if gN J i (J i 2 - 1) k 0 = J i 5 then _ else if (k : Int) + 1 = J i 6 then _ else _) else _) = _
  have hg : gN J i (J i 2 - 1) k 0 = 0 := by
    unfold gN
    split
    · rfl
    · rw [if_pos (by omega)]
  rw [if_pos hi, if_neg (by rw [hg]; omega)]
  by_cases e : (k : Int) + 1 = J i 6
  · rw [if_pos e, if_neg (by omega)]
    exact rsK_end 3 _ _ i
  · rw [if_neg e, if_pos (by omega)]
    show (⟨i, (k : Int) + 1, gN J i (J i 2 - 1) k 0, rsK 3 i⟩ : BrSt) = ⟨i, ((k + 1 : Nat) : Int), 0, rsK 3 i⟩
    rw [hg]
    rfl
theorem rsK_ok {n : Nat} {NM : Nat → ByteArray} {J : Nat → Nat → Int} (hj : JOk n NM J) {r c g : Int} {i : Nat} (hr : r = 2 ∨ r = 3) (hi : i ≤ n) (c0 : 0 ≤ c) (g0 : 0 ≤ g) (gc : g ≤ c) (cl : i < n → c < J i 6) (gn : i < n → g < J i 5) : BrI n J ⟨i, c, g, rsK r i⟩ := by
  refine ⟨hi, fun j h => ?_, fun h => ?_, fun j h k => ?_, c0, g0, gc, cl, gn⟩
  · have h : j < i := h
    show rsK r i j = 2 ∨ rsK r i j = 3
    unfold rsK
    rw [if_pos h]
    exact hr
  · show rsK r i i = 1
    unfold rsK
    rw [if_neg (by omega), if_pos rfl]
  · have k : i < j := k
    show rsK r i j = 0
    unfold rsK
    rw [if_neg (by omega), if_neg (by omega)]
theorem fS_ok {n : Nat} {NM : Nat → ByteArray} {J : Nat → Nat → Int} (hj : JOk n NM J) {i k : Nat} (hi : i < n) : BrI n J (fS J i k) := by
  have h5 := hj.m i hi
  unfold fS
  split
  · exact rsK_ok hj (.inr rfl) (by omega) (by omega) (Int.le_refl _) (by omega) (fun _ => by omega) (fun _ => by omega)
  · refine rsK_ok hj (.inr rfl) (by omega) (Int.le_refl _) (Int.le_refl _) (Int.le_refl _) (fun h => ?_) (fun h => ?_)
    · have h1 := hj.l (i + 1) h
      have h2 := hj.s (i + 1) h
      have h3 := hj.m (i + 1) h
      omega
    · have h3 := hj.m (i + 1) h
      omega
theorem wrap_lo {x : Int} (h : -9223372036854775808 ≤ x) (e : ¬ x = -9223372036854775808) (hx : x ≤ 9223372036854775807) : IntKind.i64.wrap (x - 1) = x - 1 := by
  rw [IntKind.wrap_i64]
  omega
set_option maxRecDepth 100000 in
set_option maxHeartbeats 8000000 in
theorem law_BiteFails (a : Option Addr) (cap n : Nat) (NM : Nat → ByteArray) (J : Nat → Nat → Int) (w : World) (h : Bts w a n NM J) (hl : n ≤ maxLen) (hc : n ≤ cap) (hs : ∀ i, i < n → (NM i).size ≤ maxLen) (hlo : ∀ i, i < n → -9223372036854775808 ≤ J i 2) (hhi : ∀ i, i < n → J i 2 ≤ 9223372036854775807) : Calls Try.prog 6 #[.slice a n cap] w fun e w' => e = .returned (.bool true) ∧ Below w.heap.size w w' := by
  have GR := Lib.hid (bgreat a cap n NM J w h hl)
  have HH := Lib.hid h
  clear h hl
  go_enter Try.func6, Try.ntmps6
  go_wp2_with fail
  refine GR.out.mono ?_
  rintro e w' ⟨hg, hw⟩
  subst w'
  rcases hg.elim with rfl | ⟨rfl, hn, -⟩
  · go_wp2_with fail
    refine (lives48 _).mono ?_
    rintro e w' ⟨rfl, hb⟩
    go_wp2
    go_ret
    exact ⟨rfl, hb⟩
  · clear GR hg
    rcases hr : rtB n NM J with _ | _
    · have NW := Lib.hid (bnew_no a cap n NM J w HH.out (by omega) hc hs hr)
      clear hr HH hs hlo hhi
      go_wp2_with fail
      refine (NW.out).mono ?_
      rintro e w' ⟨rfl, K⟩
      replace K := Lib.hid K
      go_wp2_with fail
      refine (lives48 _).mono ?_
      rintro e w' ⟨rfl, hb⟩
      have B2 := Lib.hid (K.out.trans (hb.mono K.out.size))
      clear hb
      go_wp2
      go_ret
      exact ⟨rfl, B2.out⟩
    · have hj := rtB_j hr
      obtain ⟨b, off, rfl, hbl, -⟩ := HH.out.at (show 0 < n from hj.n1)
      have NW := Lib.hid (bnew_ok b off cap n NM J w HH.out hc hr hs)
      have LG := Lib.hid (fun u (k : Below w.heap.size w u) => blongest _ cap n NM J u (HH.out.below k) (by omega) hc hs)
      unfold lngI at LG
      rw [hr, if_pos rfl] at LG
      have n1 := hj.n1
      have n20 := hj.n20
      have JL := Lib.hid (fun k (hk : k < n) => show 1 ≤ J k 6 ∧ J k 6 ≤ 1000 from by
        have h1 := hj.l k hk
        have h2 := hj.s k hk
        have h3 := hj.m k hk
        omega)
      have HJ := Lib.hid hj
      have HLO := Lib.hid hlo
      have HHI := Lib.hid hhi
      clear hr hs hj hlo hhi
      go_wp2_with fail
      refine (NW.out).mono ?_
      rintro e w' ⟨p, q, tb, tc, rfl, K⟩
      rw [rsK_0 3] at K
      replace K := Lib.hid K
      clear NW
      go_wp2_with fail
      refine (LG.out _ K.out.b).mono ?_
      rintro e w' ⟨rfl, hb⟩
      have K2 := Lib.hid (K.out.bel hb)
      clear hb K
      have K := K2
      clear K2
      generalize sumL J n = S at *
      clear LG
      by_cases hS : 2000 < S
      · go_wp2_with fail
        refine (lives48 _).mono ?_
        rintro e w' ⟨rfl, hb⟩
        have B2 := Lib.hid (K.out.b.trans (hb.mono K.out.b.size))
        clear hb
        go_wp2
        go_ret
        exact ⟨rfl, B2.out⟩
      · go_wp2
        go_loopw [5] (fun i v => ∃ k : Nat, k ≤ n ∧ i = .int .i64 (k : Int) ∧ Hid (NewK p q tb tc n NM J ⟨k, 0, 0, rsK 3 k⟩ w v)) (fun i _ => n - (intOf i).toNat)
        case atStart => exact ⟨0, by omega, rfl, K⟩
        case round =>
          clear K
          obtain ⟨i, hi, rfl, K⟩ := hrel
          by_cases hlt : i < n
          · have j1 : (i : Int) < (n : Int) := by omega
            have j2 : IntKind.i64.wrap ((i : Int) + 1) = (i : Int) + 1 := by rw [IntKind.wrap_i64]; omega
            obtain ⟨b', off', ea, -, k0, k1, k2, k3, k4, k5, k6⟩ := (HH.out.below K.out.b).at hlt
            injection ea with ea
            injection ea with e1 e2
            subst e1 e2
            by_cases em : J i 2 = -9223372036854775808
            · rw [em] at k2
              clear k0 k1 k3 k4 k5 k6
              go_wp2_with fail
              refine (lives48 _).mono ?_
              rintro e w' ⟨rfl, hb⟩
              have B2 := Lib.hid (K.out.b.trans (hb.mono K.out.b.size))
              clear hb
              go_wp2
              go_ret
              exact ⟨rfl, B2.out⟩
            · have wl := wrap_lo (HLO.out i hlt) em (HHI.out i hlt)
              have em2 : (J i 2 == -9223372036854775808) = false := beq_eq_false_iff_ne.2 em
              have jl := JL.out i hlt
              have SG := Lib.hid (fun (k : Nat) (hk : (k : Int) < J i 6) u (kk : BrR p q tb tc n NM J (fS J i k) u) => show Calls Try.prog 11 #[.pointer (some ⟨p, 0, none⟩)] u fun e w' => e = .returned (.tuple #[.int .i64 (J i 1), .bool true]) ∧ w' = u from by
                have := bsignal p q tb tc n NM J (fS J i k) u kk (fS_ok HJ.out hlt) HJ.out
                rw [show fS J i k = ⟨i, k, 0, rsK 3 i⟩ from if_pos hk] at this
                rw [show sigI (⟨i, k, 0, rsK 3 i⟩ : BrSt) n J = J i 1 from if_pos hlt, show decide ((⟨i, k, 0, rsK 3 i⟩ : BrSt).cur < n) = true from decide_eq_true hlt] at this
                exact this)
              have RS := Lib.hid (fun (k : Nat) u (kk : BrR p q tb tc n NM J (fS J i k) u) => bresults p q tb tc n NM J (fS J i k) u kk (fS_ok HJ.out hlt) HJ.out)
              have ST := Lib.hid (fun (k : Nat) (hk : (k : Int) < J i 6) u (kk : BrR p q tb tc n NM J (fS J i k) u) => show Calls Try.prog 12 #[.pointer (some ⟨p, 0, none⟩), .int .i64 (J i 2 - 1)] u fun e w' => ∃ z, e = .returned (.bool z) ∧ BrR p q tb tc n NM J (fS J i (k + 1)) w' ∧ Bes2 p q u w' from by
                refine (bstep p q tb tc n NM J (fS J i k) u kk (fS_ok HJ.out hlt) HJ.out (J i 2 - 1)).mono ?_
                rintro e w' ⟨rfl, r, e2⟩
                rw [fS_step HJ.out hlt hk] at r
                exact ⟨_, rfl, r, e2⟩)
              have F1 := Lib.hid (fun (k : Nat) (hk : (k : Int) < J i 6) => show (fS J i k).RS i = 1 from by
                rw [show fS J i k = ⟨i, k, 0, rsK 3 i⟩ from if_pos hk]
                show rsK 3 i i = 1
                unfold rsK
                rw [if_neg (by omega), if_pos rfl])
              have F3 := Lib.hid (fun (k : Nat) (hk : ¬ (k : Int) < J i 6) => show fS J i k = ⟨i + 1, 0, 0, rsK 3 (i + 1)⟩ from if_neg hk)
              have K0 := Lib.hid (show NewK p q tb tc n NM J (fS J i 0) w wr from by
                rw [show fS J i 0 = ⟨i, 0, 0, rsK 3 i⟩ from if_pos (show ((0 : Nat) : Int) < J i 6 by omega)]
                exact K.out)
              have CE := Lib.hid (fun u (k : Below w.heap.size w u) => show u.cell? ⟨b, off + i * 7 + 1, none⟩ = some (.int .i64 (J i 1)) ∧ u.cell? ⟨b, off + i * 7 + 2, none⟩ = some (.int .i64 (J i 2)) ∧ u.cell? ⟨b, off + i * 7 + 6, none⟩ = some (.int .i64 (J i 6)) from by
                obtain ⟨b', off', ea, -, k0, k1, k2, k3, k4, k5, k6⟩ := (HH.out.below k).at hlt
                injection ea with ea
                injection ea with e1 e2
                subst e1 e2
                exact ⟨k1, k2, k6⟩)
              generalize J i 1 = sg at *
              generalize J i 2 = lo at *
              generalize J i 6 = li at *
              clear k0 k1 k3 k4 k5 k6 K HLO HHI JL HH em
              go_wp2
              go_loopw [6] (fun i' v => ∃ k : Nat, (k : Int) ≤ li ∧ i' = .int .i64 (k : Int) ∧ Hid (NewK p q tb tc n NM J (fS J i k) w v)) (fun i' _ => li.toNat - (intOf i').toNat)
              case atStart => exact ⟨0, by omega, rfl, K0⟩
              case round =>
                clear K0 k2
                obtain ⟨k, hk, rfl, K⟩ := hrel
                obtain ⟨k1, k2, k6⟩ := CE.out _ K.out.b
                by_cases hkl : (k : Int) < li
                · have y2 : IntKind.i64.wrap ((k : Int) + 1) = (k : Int) + 1 := by rw [IntKind.wrap_i64]; omega
                  go_wp2_with fail
                  refine (RS.out k _ K.out.r).mono ?_
                  rintro e w' ⟨v, rfl, RI⟩
                  have RO := RI.o
                  have hb := RI.b
                  clear k1 k2 k6
                  have K2 := Lib.hid (K.out.bel hb)
                  clear hb K
                  have K := K2
                  clear K2
                  clear RI
                  obtain ⟨g, gc, rfl, hg1, hg2, hg3⟩ := RO
                  have g0 := hg3 i hlt
                  rw [F1.out k hkl] at g0
                  clear hg3
                  obtain ⟨k1, k2, k6⟩ := CE.out _ K.out.b
                  go_wp2_with fail
                  refine (SG.out k hkl _ K.out.r).mono ?_
                  rintro e w' ⟨rfl, hw⟩
                  subst w'
                  go_wp2_with fail
                  refine (ST.out k hkl _ K.out.r).mono ?_
                  rintro e w' ⟨z, rfl, r, e2⟩
                  have K2 := Lib.hid (K.out.next r e2)
                  clear r e2 K k1 k2 k6 g0
                  go_wp2
                  go_roundw
                  case rel => exact ⟨k + 1, by omega, by first | rfl | go_num, K2⟩
                  case measure => simp [intOf] <;> omega
                · skip
                  go_wp2_with fail
                  refine (RS.out k _ K.out.r).mono ?_
                  rintro e w' ⟨v, rfl, RI⟩
                  have RO := RI.o
                  have hb := RI.b
                  clear k1 k2 k6
                  have K2 := Lib.hid (K.out.bel hb)
                  clear hb K
                  have K := K2
                  clear K2
                  clear RI
                  obtain ⟨g, gc, rfl, hg1, hg2, hg3⟩ := RO
                  have gg := hg3 i hlt
                  rw [F3.out k hkl] at gg
                  have g0 := gg.trans (show some (Value.int .i64 (rsK 3 (i + 1) i)) = some (.int .i64 3) from by unfold rsK; rw [if_pos (by omega)])
                  clear gg
                  have K2 := Lib.hid (show NewK p q tb tc n NM J ⟨i + 1, 0, 0, rsK 3 (i + 1)⟩ w _ from F3.out k hkl ▸ K.out)
                  clear hg3 K
                  go_wp2
                  go_roundw
                  case rel => exact ⟨i + 1, by omega, by first | rfl | go_num, K2⟩
                  case measure => simp [intOf] <;> omega
          · obtain rfl : i = n := by omega
            have OK := rsK_ok (r := 3) (c := 0) (g := 0) (i := i) HJ.out (.inr rfl) (Nat.le_refl _) (Int.le_refl _) (Int.le_refl _) (Int.le_refl _) (fun h => absurd h hlt) (fun h => absurd h hlt)
            have DN := Lib.hid (bdone p q tb tc i NM J _ wr K.out.r OK HJ.out)
            have ST := Lib.hid (bstep p q tb tc i NM J _ wr K.out.r OK HJ.out 0)
            rw [show decide ((⟨i, 0, 0, rsK 3 i⟩ : BrSt).cur < i) = false from decide_eq_false hlt] at DN ST
            rw [show brStep i J 0 ⟨i, 0, 0, rsK 3 i⟩ = ⟨i, 0, 0, rsK 3 i⟩ from if_neg hlt] at ST
            clear OK
            go_wp2_with fail
            refine (DN.out).mono ?_
            rintro e w' ⟨rfl, hw⟩
            subst w'
            go_wp2_with fail
            refine (ST.out).mono ?_
            rintro e w' ⟨rfl, r, e2⟩
            have K2 := Lib.hid (K.out.next r e2)
            clear r e2 K
            have K := K2
            clear K2
            go_wp2_with fail
            refine (lives48 _).mono ?_
            rintro e w' ⟨rfl, hb⟩
            have B2 := Lib.hid (K.out.b.trans (hb.mono K.out.b.size))
            clear hb
            go_wp2
            go_ret
            exact ⟨rfl, B2.out⟩
end Go.Proofs.Ytecpmffmmiogfab
