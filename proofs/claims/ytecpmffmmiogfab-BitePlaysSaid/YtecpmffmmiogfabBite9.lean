/- The law BiteNew; walked. -/
import Derived.Test.YtecpmffmmiogfabBite8
namespace Go.Proofs.Ytecpmffmmiogfab
open Go.ChangeShapes Go.WideShapes Go.ChangeAt Go.RowKit
set_option linter.unusedVariables false
set_option linter.unusedSimpArgs false
theorem NewK.bel {p q tb tc n : Nat} {NM : Nat → ByteArray} {J : Nat → Nat → Int} {s : BrSt} {w u u' : World} (h : NewK p q tb tc n NM J s w u) (k : Below u.heap.size u u') : NewK p q tb tc n NM J s w u' := ⟨h.r.bel k, h.b.trans (k.mono h.b.size), h.p, h.q, h.t⟩
theorem GrOut.elim {n : Nat} {NM : Nat → ByteArray} {e : Ending} (h : GrOut n NM e) : e = .returned (.bool true) ∨ (e = .returned (.bool false) ∧ n ≤ 50 ∧ ∀ i, i < n → (NM i).size ≤ 100) := by
  obtain ⟨R, he, hr⟩ := h
  cases R
  · exact .inr ⟨he, hr rfl⟩
  · exact .inl he
set_option maxRecDepth 100000 in
set_option maxHeartbeats 8000000 in
theorem law_BiteNew (a : Option Addr) (cap n : Nat) (NM : Nat → ByteArray) (J : Nat → Nat → Int) (x : Int) (w : World) (h : Bts w a n NM J) (hl : n ≤ maxLen) (hc : n ≤ cap) (hs : ∀ i, i < n → (NM i).size ≤ maxLen) : Calls Try.prog 3 #[.slice a n cap, .int .i64 x] w fun e w' => e = .returned (.bool true) ∧ Below w.heap.size w w' := by
  have GR := Lib.hid (bgreat a cap n NM J w h hl)
  have HH := Lib.hid h
  clear h hl
  go_enter Try.func3, Try.ntmps3
  go_wp2_with fail
  refine GR.out.mono ?_
  rintro e w' ⟨hg, hw⟩
  subst w'
  rcases hg.elim with rfl | ⟨rfl, hn, -⟩
  · go_wp2_with fail
    refine (lives48 _).mono ?_
    rintro e w' ⟨rfl, hb⟩
    go_wp2
    go_ret
    exact ⟨rfl, hb⟩
  · clear GR hg
    have RT := Lib.hid (fun u (k : Below w.heap.size w u) => bright a cap n NM J u (HH.out.below k) (by omega) hc hs)
    have RL := Lib.hid (fun u (k : Below w.heap.size w u) => blaw a cap n NM J u (HH.out.below k) (by omega) hs)
    have LG := Lib.hid (fun u (k : Below w.heap.size w u) => blongest a cap n NM J u (HH.out.below k) (by omega) hc hs)
    rcases hr : rtB n NM J with _ | _
    · have NW := Lib.hid (bnew_no a cap n NM J w HH.out (by omega) hc hs hr)
      unfold lngI at LG
      rw [hr] at RT RL LG
      rw [if_neg (by decide)] at LG
      clear hr HH hs
      go_wp2_with fail
      refine (NW.out).mono ?_
      rintro e w' ⟨rfl, K⟩
      replace K := Lib.hid K
      go_wp2_with fail
      refine (bnil_abort _).mono ?_
      rintro e w' ⟨rfl, hw⟩
      subst w'
      go_wp2_with fail
      refine (bnil_signal _).mono ?_
      rintro e w' ⟨rfl, hw⟩
      subst w'
      go_wp2_with fail
      refine (bnil_step _ _).mono ?_
      rintro e w' ⟨rfl, hw⟩
      subst w'
      go_wp2_with fail
      refine (bnil_results _).mono ?_
      rintro e w' ⟨rfl, hw⟩
      subst w'
      go_wp2_with fail
      refine (bnil_done _).mono ?_
      rintro e w' ⟨rfl, hw⟩
      subst w'
      go_wp2_with fail
      refine (bnil_text _).mono ?_
      rintro e w' ⟨rfl, hw⟩
      subst w'
      have B := K
      clear K
      go_wp2_with fail
      refine (RT.out _ B.out).mono ?_
      rintro e w' ⟨rfl, hb⟩
      have B2 := Lib.hid (B.out.trans (hb.mono B.out.size))
      clear hb B
      have B := B2
      clear B2
      go_wp2_with fail
      refine (RL.out _ B.out).mono ?_
      rintro e w' ⟨rfl, hb⟩
      have B2 := Lib.hid (B.out.trans (hb.mono B.out.size))
      clear hb B
      have B := B2
      clear B2
      go_wp2_with fail
      refine (RL.out _ B.out).mono ?_
      rintro e w' ⟨rfl, hb⟩
      have B2 := Lib.hid (B.out.trans (hb.mono B.out.size))
      clear hb B
      have B := B2
      clear B2
      go_wp2_with fail
      refine (LG.out _ B.out).mono ?_
      rintro e w' ⟨rfl, hb⟩
      have B2 := Lib.hid (B.out.trans (hb.mono B.out.size))
      clear hb B
      have B := B2
      clear B2
      go_wp2_with fail
      refine (lives48 _).mono ?_
      rintro e w' ⟨rfl, hb⟩
      have B2 := Lib.hid (B.out.trans (hb.mono B.out.size))
      clear hb B
      go_wp2
      go_ret
      exact ⟨rfl, B2.out⟩
    · have hj := rtB_j hr
      obtain ⟨b, off, rfl, hbl, -⟩ := HH.out.at (show 0 < n from hj.n1)
      have NW := Lib.hid (bnew_ok b off cap n NM J w HH.out hc hr hs)
      unfold lngI at LG
      rw [hr] at RT RL LG
      rw [if_pos rfl] at LG
      have SB := Lib.hid (sumL_b hj)
      have n1 := hj.n1
      have n20 := hj.n20
      have JL := Lib.hid (fun k (hk : k < n) => show 0 ≤ J k 6 ∧ J k 6 ≤ 1000 from by
        have h1 := hj.l k hk
        have h2 := hj.s k hk
        have h3 := hj.m k hk
        omega)
      have SG := Lib.hid (fun p q tb tc u (k : BrR p q tb tc n NM J s0 u) => show Calls Try.prog 11 #[.pointer (some ⟨p, 0, none⟩)] u fun e w' => e = .returned (.tuple #[.int .i64 (J 0 1), .bool true]) ∧ w' = u from by
        have := bsignal p q tb tc n NM J s0 u k (s0_ok hj) hj
        rw [show sigI s0 n J = J 0 1 from if_pos n1, show decide (s0.cur < n) = true from decide_eq_true n1] at this
        exact this)
      have DN := Lib.hid (fun p q tb tc u (k : BrR p q tb tc n NM J s0 u) => show Calls Try.prog 14 #[.pointer (some ⟨p, 0, none⟩)] u fun e w' => e = .returned (.bool false) ∧ w' = u from by
        have := bdone p q tb tc n NM J s0 u k (s0_ok hj) hj
        rw [show decide (s0.cur < n) = true from decide_eq_true n1] at this
        exact this)
      have RS := Lib.hid (fun p q tb tc u (k : BrR p q tb tc n NM J s0 u) => bresults p q tb tc n NM J s0 u k (s0_ok hj) hj)
      clear hr hs hj
      go_wp2_with fail
      refine (NW.out).mono ?_
      rintro e w' ⟨p, q, tb, tc, rfl, K⟩
      replace K := Lib.hid K
      clear NW
      go_wp2_with fail
      refine (bnil_abort _).mono ?_
      rintro e w' ⟨rfl, hw⟩
      subst w'
      go_wp2_with fail
      refine (bnil_signal _).mono ?_
      rintro e w' ⟨rfl, hw⟩
      subst w'
      go_wp2_with fail
      refine (bnil_step _ _).mono ?_
      rintro e w' ⟨rfl, hw⟩
      subst w'
      go_wp2_with fail
      refine (bnil_results _).mono ?_
      rintro e w' ⟨rfl, hw⟩
      subst w'
      go_wp2_with fail
      refine (bnil_done _).mono ?_
      rintro e w' ⟨rfl, hw⟩
      subst w'
      go_wp2_with fail
      refine (bnil_text _).mono ?_
      rintro e w' ⟨rfl, hw⟩
      subst w'
      go_wp2_with fail
      refine (RT.out _ K.out.b).mono ?_
      rintro e w' ⟨rfl, hb⟩
      have K2 := Lib.hid (K.out.bel hb)
      clear hb K
      have K := K2
      clear K2
      go_wp2_with fail
      refine (RL.out _ K.out.b).mono ?_
      rintro e w' ⟨rfl, hb⟩
      have K2 := Lib.hid (K.out.bel hb)
      clear hb K
      have K := K2
      clear K2
      go_wp2_with fail
      refine (RL.out _ K.out.b).mono ?_
      rintro e w' ⟨rfl, hb⟩
      have K2 := Lib.hid (K.out.bel hb)
      clear hb K
      have K := K2
      clear K2
      clear RT RL
      go_wp2
      go_loopw [11, 10] (fun i s v => ∃ k : Nat, k ≤ n ∧ i = .int .i64 (k : Int) ∧ s = .int .i64 (sumL J k) ∧ Hid (NewK p q tb tc n NM J s0 w v)) (fun i _ _ => n - (intOf i).toNat)
      case atStart => exact ⟨0, by omega, rfl, rfl, K⟩
      case round =>
        clear K
        obtain ⟨k, hk, rfl, rfl, K⟩ := hrel
        by_cases hlt : k < n
        · obtain ⟨b', off', ea, -, k0, k1, k2, k3, k4, k5, k6⟩ := (HH.out.below K.out.b).at hlt
          injection ea with ea
          injection ea with e1 e2
          subst e1 e2
          have j1 : (k : Int) < (n : Int) := by omega
          have j2 : IntKind.i64.wrap ((k : Int) + 1) = (k : Int) + 1 := by rw [IntKind.wrap_i64]; omega
          have sb := SB.out k hk
          have jl := JL.out k hlt
          have ws : IntKind.i64.wrap (sumL J k + J k 6) = sumL J k + J k 6 := by rw [IntKind.wrap_i64]; omega
          have SN := Lib.hid (show sumL J k + J k 6 = sumL J (k + 1) from rfl)
          generalize sumL J k = S at *
          generalize J k 6 = li at *
          clear k0 k1 k2 k3 k4 k5 sb jl SG DN RS LG SB JL HH
          go_wp2
          go_roundw
          case rel => exact ⟨k + 1, by omega, by first | rfl | go_num, by rw [← SN.out], K⟩
          case measure => simp [intOf] <;> omega
        · obtain rfl : k = n := by omega
          clear hlt hk SB JL
          go_wp2_with fail
          refine (SG.out p q tb tc _ K.out.r).mono ?_
          rintro e w' ⟨rfl, hw⟩
          subst w'
          go_wp2_with fail
          refine (RS.out p q tb tc _ K.out.r).mono ?_
          rintro e w' ⟨v, rfl, RI⟩
          have RO := RI.o
          have hb := RI.b
          have K2 := Lib.hid (K.out.bel hb)
          clear hb RI K
          have K := K2
          clear K2
          obtain ⟨g, gc, rfl, hg1, hg2, hg3⟩ := RO
          replace hg3 := Lib.hid hg3
          go_wp2_with fail
          refine (LG.out _ K.out.b).mono ?_
          rintro e w' ⟨rfl, hb⟩
          have G3 := Lib.hid (fun i (hi : i < k) => (bc hb hg2).trans (hg3.out i hi))
          have hg4 := Lib.hid (Nat.lt_of_lt_of_le hg2 hb.size)
          have K2 := Lib.hid (K.out.bel hb)
          clear hb K hg3 hg2
          have K := K2
          clear K2
          obtain ⟨b', off', ea, -, k0, k1, -⟩ := (HH.out.below K.out.b).at (show 0 < k from n1)
          injection ea with ea
          injection ea with e1 e2
          subst e1 e2
          simp only [Nat.zero_mul, Nat.add_zero, Nat.zero_add] at k1
          generalize sumL J k = S at *
          generalize J 0 1 = sg at *
          have z1 : (0 : Int) < (k : Int) := by omega
          have z2 : 0 < k := n1
          go_wp2_with fail
          refine (DN.out p q tb tc _ K.out.r).mono ?_
          rintro e w' ⟨rfl, hw⟩
          subst w'
          clear k0 k1
          go_wp2
          go_loopw [13] (fun i v => ∃ j : Nat, j ≤ k ∧ i = .int .i64 (j : Int) ∧ Hid (NewK p q tb tc k NM J s0 w v) ∧ Hid (g < v.heap.size) ∧ Hid (∀ i, i < k → v.cell? ⟨g, i, none⟩ = some (.int .i64 (s0.RS i)))) (fun i _ => k - (intOf i).toNat)
          case atStart => exact ⟨0, by omega, rfl, K, hg4, G3⟩
          case round =>
            clear K hg4 G3
            obtain ⟨j, hj, rfl, K, hg4, G3⟩ := hrel
            by_cases hlt : j < k
            · have j1 : (j : Int) < (k : Int) := by omega
              have j2 : IntKind.i64.wrap ((j : Int) + 1) = (j : Int) + 1 := by rw [IntKind.wrap_i64]; omega
              have cc := Lib.hid (G3.out j hlt)
              by_cases e0 : j = 0
              · have c0 : wr.cell? ⟨g, j, none⟩ = some (.int .i64 1) := by
                  rw [cc.out]
                  show some (Value.int .i64 (if j = 0 then (1 : Int) else 0)) = _
                  rw [if_pos e0]
                have f1 : ((j : Int) == 0) = true := beq_iff_eq.2 (by omega)
                have f3 : (j : Int) = 0 := by omega
                have f2 : ¬ (0 : Int) < (j : Int) := by omega
                have f4 : Value.int .i64 ((j : Int) + 1) = .int .i64 (((j + 1 : Nat)) : Int) := rfl
                clear e0 f3
                go_wp2
                go_roundw
                case rel => exact ⟨j + 1, by omega, by first | rfl | go_num, K, hg4, G3⟩
                case measure => simp [intOf] <;> omega
              · have c0 : wr.cell? ⟨g, j, none⟩ = some (.int .i64 0) := by
                  rw [cc.out]
                  show some (Value.int .i64 (if j = 0 then (1 : Int) else 0)) = _
                  rw [if_neg e0]
                have f1 : ((j : Int) == 0) = false := beq_eq_false_iff_ne.2 (by omega)
                have f3 : ¬ (j : Int) = 0 := by omega
                have f2 : (0 : Int) < (j : Int) := by omega
                go_wp2
                go_roundw
                case rel => exact ⟨j + 1, by omega, by first | rfl | go_num, K, hg4, G3⟩
                case measure => simp [intOf] <;> omega
            · obtain rfl : j = k := by omega
              go_wp2_with fail
              refine (lives48 _).mono ?_
              rintro e w' ⟨rfl, hb⟩
              have FIN := Lib.hid (K.out.b.trans (hb.mono K.out.b.size))
              clear hb
              go_wp2
              go_ret
              exact ⟨rfl, FIN.out⟩
end Go.Proofs.Ytecpmffmmiogfab
