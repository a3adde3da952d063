/- The document's warner; walked. -/
import Derived.Test.YtnfbfggkbpobiaaVmo4
import Derived.Deep.Cut
namespace Go.Proofs.Ytnfbfggkbpobiaa
open Go.ChangeShapes Go.WideShapes Go.ChangeAt Go.RowKit
set_option linter.unusedVariables false
set_option linter.unusedSimpArgs false

def dF (M v F : Int) : Int := if v ≤ M then 0 else F + 1
def dO (M v mg tk F : Int) (O : Bool) : Bool := if v + mg ≤ M then false else if tk ≤ dF M v F then true else O
def dS (L v S : Int) : Int := if L ≤ v then 0 else S + 1
def dU (L v mg tk S : Int) (Un : Bool) : Bool := if L ≤ v - mg then false else if tk ≤ dS L v S then true else Un
theorem dO_is {M v mg tk F r1 : Int} {o1 : Bool} (h : r1 = min F tk) (hF : 0 ≤ F) (ht : 1 ≤ tk) (hm : 0 ≤ mg) : dO M v mg tk F o1 = nO1 M v mg tk r1 o1 ∧ nR1 M v tk r1 = min (dF M v F) tk ∧ 0 ≤ dF M v F ∧ dF M v F ≤ F + 1 := by
  unfold dO dF nO1 nR1 wrO wrR
  by_cases a : v ≤ M
  · rw [decide_eq_false (show ¬ M < v by omega)]
    simp only [Bool.false_eq_true, if_false, a, if_true]
    rw [show ((0 : Int) == tk) = false by simp; omega, Bool.false_or]
    by_cases b : v + mg ≤ M
    · simp [b, show v ≤ M - mg by omega]; omega
    · simp [b, show ¬ v ≤ M - mg by omega, show ¬ tk ≤ 0 by omega]; omega
  · rw [decide_eq_true (show M < v by omega), decide_eq_false (show ¬ v ≤ M - mg by omega)]
    simp only [a, if_true, if_false, show ¬ v + mg ≤ M by omega]
    by_cases b : tk ≤ F + 1
    · simp only [b, if_true]
      rw [show (min (r1 + 1) tk == tk) = true by simp; omega, Bool.true_or]
      exact ⟨rfl, by omega, by omega, by omega⟩
    · simp only [b, if_false]
      rw [show (min (r1 + 1) tk == tk) = false by simp; omega, Bool.false_or]
      exact ⟨by simp, by omega, by omega, by omega⟩
theorem dU_is {L v mg tk S r2 : Int} {o2 : Bool} (h : r2 = min S tk) (hS : 0 ≤ S) (ht : 1 ≤ tk) (hm : 0 ≤ mg) : dU L v mg tk S o2 = nO2 L v mg tk r2 o2 ∧ nR2 L v tk r2 = min (dS L v S) tk ∧ 0 ≤ dS L v S ∧ dS L v S ≤ S + 1 := by
  unfold dU dS nO2 nR2 wrO wrR
  by_cases a : L ≤ v
  · rw [decide_eq_false (show ¬ v < L by omega)]
    simp only [Bool.false_eq_true, if_false, a, if_true]
    rw [show ((0 : Int) == tk) = false by simp; omega, Bool.false_or]
    by_cases b : L ≤ v - mg
    · simp [b, show L + mg ≤ v by omega]; omega
    · simp [b, show ¬ L + mg ≤ v by omega, show ¬ tk ≤ 0 by omega]; omega
  · rw [decide_eq_true (show v < L by omega), decide_eq_false (show ¬ L + mg ≤ v by omega)]
    simp only [a, if_true, if_false, show ¬ L ≤ v - mg by omega]
    by_cases b : tk ≤ S + 1
    · simp only [b, if_true]
      rw [show (min (r2 + 1) tk == tk) = true by simp; omega, Bool.true_or]
      exact ⟨rfl, by omega, by omega, by omega⟩
    · simp only [b, if_false]
      rw [show (min (r2 + 1) tk == tk) = false by simp; omega, Bool.false_or]
      exact ⟨by simp, by omega, by omega, by omega⟩
set_option maxRecDepth 100000 in
set_option maxHeartbeats 8000000 in
theorem rwstep43 (k : Nat) (a1 a2 a3 a4 : Option Addr) (e1 e2 e3 e4 : Nat) (X Y Z T : List Int) (ma mg tk : Int) (F S : Int) (O Un : Bool) (cas hh p wt : Int) (w : World) (h : Held k [.slice a1 X.length e1, .slice a2 Y.length e2, .slice a3 Z.length e3, .slice a4 T.length e4, .int .i64 ma, .int .i64 mg, .int .i64 tk, .int .i64 F, .int .i64 S, .bool O, .bool Un] w) (hr1 : RowIs .i64 w a1 X) (hr2 : RowIs .i64 w a2 Y) (hr3 : RowIs .i64 w a3 Z) (hr4 : RowIs .i64 w a4 T) (hl1 : X.length ≤ 300) (hl2 : Y.length ≤ 300) (hl3 : Z.length ≤ 300) (hl4 : T.length ≤ 300) (hp1 : -9223372036854775808 ≤ p) (hp2 : p ≤ 9223372036854775807) (hw : voB X Y Z T ma mg tk = true) (F1 : 0 ≤ F) (F2 : F ≤ 100000) (S1 : 0 ≤ S) (S2 : S ≤ 100000) :
    Calls Try.prog 50 #[.pointer (some ⟨k, 0, none⟩), .int .i64 cas, .int .i64 hh, .int .i64 p, .int .i64 wt] w fun e w' => e = .returned (.int .i64 (mkV (dO (vlM X Y ma hh p) (clp cas) mg tk F O) (dU (vlL Z T wt) (clp cas) mg tk S Un) (decide ((vlM X Y ma hh p) < (vlL Z T wt))))) ∧ Held k [.slice a1 X.length e1, .slice a2 Y.length e2, .slice a3 Z.length e3, .slice a4 T.length e4, .int .i64 ma, .int .i64 mg, .int .i64 tk, .int .i64 (dF (vlM X Y ma hh p) (clp cas) F), .int .i64 (dS (vlL Z T wt) (clp cas) S), .bool (dO (vlM X Y ma hh p) (clp cas) mg tk F O), .bool (dU (vlL Z T wt) (clp cas) mg tk S Un)] w' ∧ Beside k w w' := by
  obtain ⟨i1, i2, -, ⟨g1', g2'⟩, t1, t2⟩ := voB_at hw
  obtain ⟨⟨L1, L2⟩, M1, M2⟩ := vl_bd i1 i2 ma hh p wt
  have LI := Lib.hid (rlimits43 a1 a2 a3 a4 e1 e2 e3 e4 X Y Z T ma mg tk hh p wt w hr1 hr2 hr3 hr4 hl1 hl2 hl3 hl4 hp1 hp2 hw)
  have vb := clp_bd cas
  have CL := Lib.hid (fun u => rclip_any cas u)
  generalize clp cas = v at *
  generalize vlL Z T wt = L at *
  generalize vlM X Y ma hh p = M at *
  have hw1 : IntKind.i64.wrap (v + mg) = v + mg := IntWalk.i64_in _ ⟨by omega, by omega⟩
  have hw2 : IntKind.i64.wrap (v - mg) = v - mg := IntWalk.i64_in _ ⟨by omega, by omega⟩
  have hw3 : IntKind.i64.wrap (F + 1) = F + 1 := IntWalk.i64_in _ ⟨by omega, by omega⟩
  have hw4 : IntKind.i64.wrap (S + 1) = S + 1 := IntWalk.i64_in _ ⟨by omega, by omega⟩
  obtain ⟨F', hF'⟩ : ∃ x, x = dF M v F := ⟨_, rfl⟩
  obtain ⟨O', hO'⟩ : ∃ x, x = dO M v mg tk F O := ⟨_, rfl⟩
  obtain ⟨S', hS'⟩ : ∃ x, x = dS L v S := ⟨_, rfl⟩
  obtain ⟨U', hU'⟩ : ∃ x, x = dU L v mg tk S Un := ⟨_, rfl⟩
  rw [← hF', ← hO', ← hS', ← hU']
  replace hF' := Lib.hid hF'
  replace hO' := Lib.hid hO'
  replace hS' := Lib.hid hS'
  replace hU' := Lib.hid hU'
  have HW := Lib.hid h
  obtain ⟨z0, qq0⟩ := h.one 0 rfl
  obtain ⟨z1, qq1⟩ := h.one 1 rfl
  obtain ⟨z2, qq2⟩ := h.one 2 rfl
  obtain ⟨z3, qq3⟩ := h.one 3 rfl
  obtain ⟨z4, qq4⟩ := h.one 4 rfl
  obtain ⟨z5, qq5⟩ := h.one 5 rfl
  obtain ⟨z6, qq6⟩ := h.one 6 rfl
  clear h hr1 hr2 hr3 hr4 hl1 hl2 hl3 hl4 hp1 hp2 hw i1 i2 L1 L2 M1 M2 vb F2 S2
  go_enter Try.func50, Try.ntmps50
  go_wp2_with fail
  refine (CL.out _).mono ?_
  rintro e w1 ⟨rfl, rfl⟩
  go_wp2_with fail
  refine LI.out.mono ?_
  rintro e w2 ⟨rfl, hb2⟩
  have h2 := HW.out.bel hb2
  have B2 := Lib.hid (Beside.of_below (b := k) hb2)
  clear hb2 z0 z1 z2 z3 z4 z5 z6 qq0 qq1 qq2 qq3 qq4 qq5 qq6
  obtain ⟨z0, qq0⟩ := h2.one 0 rfl
  obtain ⟨z1, qq1⟩ := h2.one 1 rfl
  obtain ⟨z2, qq2⟩ := h2.one 2 rfl
  obtain ⟨z3, qq3⟩ := h2.one 3 rfl
  obtain ⟨z4, qq4⟩ := h2.one 4 rfl
  obtain ⟨z5, qq5⟩ := h2.one 5 rfl
  obtain ⟨z6, qq6⟩ := h2.one 6 rfl
  obtain ⟨z7, qq7⟩ := h2.one 7 rfl
  obtain ⟨z8, qq8⟩ := h2.one 8 rfl
  obtain ⟨z9, qq9⟩ := h2.one 9 rfl
  obtain ⟨z10, qq10⟩ := h2.one 10 rfl
  replace h2 := Lib.hid h2
  clear HW CL LI
  go_upto_region 4 with (fail)
  rcases (show (v ≤ M ∧ v + mg ≤ M) ∨ (v ≤ M ∧ M < v + mg) ∨ (M < v ∧ tk ≤ F + 1) ∨ (M < v ∧ F + 1 < tk) by omega) with hc | hc | hc | hc
  · have ia1 : v ≤ M := hc.1
    have ia2 : v + mg ≤ M := hc.2
    have ia3 : (0 : Int) < tk := by omega
    have EO : F' = 0 ∧ O' = false := by
          rw [hF'.out, hO'.out]
          unfold dO dF
          refine ⟨?_, ?_⟩
          · first | rw [if_pos (by omega)] | rw [if_neg (by omega)]
          · first | rw [if_pos (by omega)] | rw [if_neg (by omega), if_pos (by first | (rw [if_pos (by omega)]; omega) | (rw [if_neg (by omega)]; omega))] | rw [if_neg (by omega), if_neg (by first | (rw [if_pos (by omega)]; omega) | (rw [if_neg (by omega)]; omega))]
    replace EO := Lib.hid EO
    clear hc hF' hO'
    go_upto_region 6 with (fail)
    obtain ⟨W6, eW6, qW6⟩ : ∃ W, W = ((w2.setCell ⟨k, 7, none⟩ (.int .i64 (F + 1))).setCell ⟨k, 7, none⟩ (.int .i64 0)) ∧ HB k [.slice a1 X.length e1, .slice a2 Y.length e2, .slice a3 Z.length e3, .slice a4 T.length e4, .int .i64 ma, .int .i64 mg, .int .i64 tk, .int .i64 (0), .int .i64 S, .bool O, .bool Un] w2 W   := ⟨_, rfl, by exact HB.is ((((HB.start h2.out).set 7 (.int .i64 (F + 1)) (by simp)).set 7 (.int .i64 0) (by simp))) rfl⟩
    rw [← eW6]
    replace eW6 := Lib.hid eW6
    have hW6 := qW6.held
    clear z0 z1 z2 z3 z4 z5 z6 z7 z8 z9 z10 qq0 qq1 qq2 qq3 qq4 qq5 qq6 qq7 qq8 qq9 qq10
    obtain ⟨z0, qq0⟩ := hW6.one 0 rfl
    obtain ⟨z1, qq1⟩ := hW6.one 1 rfl
    obtain ⟨z2, qq2⟩ := hW6.one 2 rfl
    obtain ⟨z3, qq3⟩ := hW6.one 3 rfl
    obtain ⟨z4, qq4⟩ := hW6.one 4 rfl
    obtain ⟨z5, qq5⟩ := hW6.one 5 rfl
    obtain ⟨z6, qq6⟩ := hW6.one 6 rfl
    obtain ⟨z7, qq7⟩ := hW6.one 7 rfl
    obtain ⟨z8, qq8⟩ := hW6.one 8 rfl
    obtain ⟨z9, qq9⟩ := hW6.one 9 rfl
    obtain ⟨z10, qq10⟩ := hW6.one 10 rfl
    clear hW6
    replace qW6 := Lib.hid qW6
    refine region_still [] [(.free, 0), (.free, 1), (.free, 2), (.take, 3), (.free, 4), (.free, 5), (.free, 6), (.free, 7), (.take, 8), (.free, 9)] _ (by kernel_rfl) (by kernel_rfl) (by kernel_rfl) (by kernel_rfl) (by decide) rfl (fun _ _ _ _ _ h => h) ?_
    simp only [List.filterMap_cons, List.filterMap_nil, List.getElem?_toArray, List.getElem?_cons_zero, List.getElem?_cons_succ, Option.map_some]
    iterate 3
      first
        | (refine mv_free ?_ (Or.inl ⟨by rfl, ?_⟩) (rfl) ?_
           rotate_left 1
           · intro u
             go_simp
             try simp only [d1]
             try simp only [d2]
             try simp only [d3]
             try simp only [d4]
             try with_reducible rfl
           simp only [Act.put, List.setIfInBounds_toArray, List.set_cons_zero, List.set_cons_succ])
        | (refine mv_free _ (Or.inr ⟨by rfl, rfl⟩) (rfl) ?_
           simp only [Act.put, List.setIfInBounds_toArray, List.set_cons_zero, List.set_cons_succ])
    iterate 1
      first
        | (refine mv_take ?_ (Or.inl ⟨by rfl, ?_⟩) (rfl) ?_
           rotate_left 1
           · intro u hu
             (try dsimp only at hu)
             go_simp
             try with_reducible rfl
           simp only [Act.put, List.setIfInBounds_toArray, List.set_cons_zero, List.set_cons_succ])
        | (refine mv_take _ (Or.inr ⟨by rfl, rfl⟩) (rfl) ?_
           simp only [Act.put, List.setIfInBounds_toArray, List.set_cons_zero, List.set_cons_succ])
    iterate 4
      first
        | (refine mv_free ?_ (Or.inl ⟨by rfl, ?_⟩) (rfl) ?_
           rotate_left 1
           · intro u
             go_simp
             try simp only [d1]
             try simp only [d2]
             try simp only [d3]
             try simp only [d4]
             try with_reducible rfl
           simp only [Act.put, List.setIfInBounds_toArray, List.set_cons_zero, List.set_cons_succ])
        | (refine mv_free _ (Or.inr ⟨by rfl, rfl⟩) (rfl) ?_
           simp only [Act.put, List.setIfInBounds_toArray, List.set_cons_zero, List.set_cons_succ])
    iterate 1
      first
        | (refine mv_take ?_ (Or.inl ⟨by rfl, ?_⟩) (rfl) ?_
           rotate_left 1
           · intro u hu
             (try dsimp only at hu)
             go_simp
             try with_reducible rfl
           simp only [Act.put, List.setIfInBounds_toArray, List.set_cons_zero, List.set_cons_succ])
        | (refine mv_take _ (Or.inr ⟨by rfl, rfl⟩) (rfl) ?_
           simp only [Act.put, List.setIfInBounds_toArray, List.set_cons_zero, List.set_cons_succ])
    iterate 1
      first
        | (refine mv_free ?_ (Or.inl ⟨by rfl, ?_⟩) (rfl) ?_
           rotate_left 1
           · intro u
             go_simp
             try simp only [d1]
             try simp only [d2]
             try simp only [d3]
             try simp only [d4]
             try with_reducible rfl
           simp only [Act.put, List.setIfInBounds_toArray, List.set_cons_zero, List.set_cons_succ])
        | (refine mv_free _ (Or.inr ⟨by rfl, rfl⟩) (rfl) ?_
           simp only [Act.put, List.setIfInBounds_toArray, List.set_cons_zero, List.set_cons_succ])
    refine mv_done ?_
    go_upto_region 10 with (fail)
    obtain ⟨W10, eW10, qW10⟩ : ∃ W, W = (W6.setCell ⟨k, 9, none⟩ (.bool false)).drew ∧ HB k [.slice a1 X.length e1, .slice a2 Y.length e2, .slice a3 Z.length e3, .slice a4 T.length e4, .int .i64 ma, .int .i64 mg, .int .i64 tk, .int .i64 (0), .int .i64 S, .bool false, .bool Un] w2 W   := ⟨_, rfl, by exact HB.is (((qW6.out.set 9 (.bool false) (by simp)).as rfl rfl rfl rfl)) rfl⟩
    rw [← eW10]
    replace eW10 := Lib.hid eW10
    have hW10 := qW10.held
    clear z0 z1 z2 z3 z4 z5 z6 z7 z8 z9 z10 qq0 qq1 qq2 qq3 qq4 qq5 qq6 qq7 qq8 qq9 qq10
    obtain ⟨z0, qq0⟩ := hW10.one 0 rfl
    obtain ⟨z1, qq1⟩ := hW10.one 1 rfl
    obtain ⟨z2, qq2⟩ := hW10.one 2 rfl
    obtain ⟨z3, qq3⟩ := hW10.one 3 rfl
    obtain ⟨z4, qq4⟩ := hW10.one 4 rfl
    obtain ⟨z5, qq5⟩ := hW10.one 5 rfl
    obtain ⟨z6, qq6⟩ := hW10.one 6 rfl
    obtain ⟨z7, qq7⟩ := hW10.one 7 rfl
    obtain ⟨z8, qq8⟩ := hW10.one 8 rfl
    obtain ⟨z9, qq9⟩ := hW10.one 9 rfl
    obtain ⟨z10, qq10⟩ := hW10.one 10 rfl
    clear hW10
    replace qW10 := Lib.hid qW10
    rcases (show (L ≤ v ∧ L ≤ v - mg) ∨ (L ≤ v ∧ v - mg < L) ∨ (v < L ∧ tk ≤ S + 1) ∨ (v < L ∧ S + 1 < tk) by omega) with hd | hd | hd | hd
    · have ib1 : L ≤ v := hd.1
      have ib2 : L ≤ v - mg := hd.2
      have ib3 : (0 : Int) < tk := by omega
      have EU : S' = 0 ∧ U' = false := by
              rw [hS'.out, hU'.out]
              unfold dU dS
              refine ⟨?_, ?_⟩
              · first | rw [if_pos (by omega)] | rw [if_neg (by omega)]
              · first | rw [if_pos (by omega)] | rw [if_neg (by omega), if_pos (by first | (rw [if_pos (by omega)]; omega) | (rw [if_neg (by omega)]; omega))] | rw [if_neg (by omega), if_neg (by first | (rw [if_pos (by omega)]; omega) | (rw [if_neg (by omega)]; omega))]
      replace EU := Lib.hid EU
      clear hd hS' hU'
      go_upto_region 13 with (fail)
      obtain ⟨W13, eW13, qW13⟩ : ∃ W, W = ((W10.setCell ⟨k, 8, none⟩ (.int .i64 (S + 1))).setCell ⟨k, 8, none⟩ (.int .i64 0)) ∧ HB k [.slice a1 X.length e1, .slice a2 Y.length e2, .slice a3 Z.length e3, .slice a4 T.length e4, .int .i64 ma, .int .i64 mg, .int .i64 tk, .int .i64 (0), .int .i64 (0), .bool false, .bool Un] w2 W   := ⟨_, rfl, by exact HB.is (((qW10.out.set 8 (.int .i64 (S + 1)) (by simp)).set 8 (.int .i64 0) (by simp))) rfl⟩
      rw [← eW13]
      replace eW13 := Lib.hid eW13
      have hW13 := qW13.held
      clear z0 z1 z2 z3 z4 z5 z6 z7 z8 z9 z10 qq0 qq1 qq2 qq3 qq4 qq5 qq6 qq7 qq8 qq9 qq10
      obtain ⟨z0, qq0⟩ := hW13.one 0 rfl
      obtain ⟨z1, qq1⟩ := hW13.one 1 rfl
      obtain ⟨z2, qq2⟩ := hW13.one 2 rfl
      obtain ⟨z3, qq3⟩ := hW13.one 3 rfl
      obtain ⟨z4, qq4⟩ := hW13.one 4 rfl
      obtain ⟨z5, qq5⟩ := hW13.one 5 rfl
      obtain ⟨z6, qq6⟩ := hW13.one 6 rfl
      obtain ⟨z7, qq7⟩ := hW13.one 7 rfl
      obtain ⟨z8, qq8⟩ := hW13.one 8 rfl
      obtain ⟨z9, qq9⟩ := hW13.one 9 rfl
      obtain ⟨z10, qq10⟩ := hW13.one 10 rfl
      clear hW13
      replace qW13 := Lib.hid qW13
      refine region_still [] [(.free, 0), (.free, 1), (.free, 2), (.take, 3), (.free, 4), (.free, 5), (.free, 6), (.free, 7), (.take, 8), (.free, 9)] _ (by kernel_rfl) (by kernel_rfl) (by kernel_rfl) (by kernel_rfl) (by decide) rfl (fun _ _ _ _ _ h => h) ?_
      simp only [List.filterMap_cons, List.filterMap_nil, List.getElem?_toArray, List.getElem?_cons_zero, List.getElem?_cons_succ, Option.map_some]
      iterate 3
        first
          | (refine mv_free ?_ (Or.inl ⟨by rfl, ?_⟩) (rfl) ?_
             rotate_left 1
             · intro u
               go_simp
               try simp only [d1]
               try simp only [d2]
               try simp only [d3]
               try simp only [d4]
               try with_reducible rfl
             simp only [Act.put, List.setIfInBounds_toArray, List.set_cons_zero, List.set_cons_succ])
          | (refine mv_free _ (Or.inr ⟨by rfl, rfl⟩) (rfl) ?_
             simp only [Act.put, List.setIfInBounds_toArray, List.set_cons_zero, List.set_cons_succ])
      iterate 1
        first
          | (refine mv_take ?_ (Or.inl ⟨by rfl, ?_⟩) (rfl) ?_
             rotate_left 1
             · intro u hu
               (try dsimp only at hu)
               go_simp
               try with_reducible rfl
             simp only [Act.put, List.setIfInBounds_toArray, List.set_cons_zero, List.set_cons_succ])
          | (refine mv_take _ (Or.inr ⟨by rfl, rfl⟩) (rfl) ?_
             simp only [Act.put, List.setIfInBounds_toArray, List.set_cons_zero, List.set_cons_succ])
      iterate 4
        first
          | (refine mv_free ?_ (Or.inl ⟨by rfl, ?_⟩) (rfl) ?_
             rotate_left 1
             · intro u
               go_simp
               try simp only [d1]
               try simp only [d2]
               try simp only [d3]
               try simp only [d4]
               try with_reducible rfl
             simp only [Act.put, List.setIfInBounds_toArray, List.set_cons_zero, List.set_cons_succ])
          | (refine mv_free _ (Or.inr ⟨by rfl, rfl⟩) (rfl) ?_
             simp only [Act.put, List.setIfInBounds_toArray, List.set_cons_zero, List.set_cons_succ])
      iterate 1
        first
          | (refine mv_take ?_ (Or.inl ⟨by rfl, ?_⟩) (rfl) ?_
             rotate_left 1
             · intro u hu
               (try dsimp only at hu)
               go_simp
               try with_reducible rfl
             simp only [Act.put, List.setIfInBounds_toArray, List.set_cons_zero, List.set_cons_succ])
          | (refine mv_take _ (Or.inr ⟨by rfl, rfl⟩) (rfl) ?_
             simp only [Act.put, List.setIfInBounds_toArray, List.set_cons_zero, List.set_cons_succ])
      iterate 1
        first
          | (refine mv_free ?_ (Or.inl ⟨by rfl, ?_⟩) (rfl) ?_
             rotate_left 1
             · intro u
               go_simp
               try simp only [d1]
               try simp only [d2]
               try simp only [d3]
               try simp only [d4]
               try with_reducible rfl
             simp only [Act.put, List.setIfInBounds_toArray, List.set_cons_zero, List.set_cons_succ])
          | (refine mv_free _ (Or.inr ⟨by rfl, rfl⟩) (rfl) ?_
             simp only [Act.put, List.setIfInBounds_toArray, List.set_cons_zero, List.set_cons_succ])
      refine mv_done ?_
      go_upto_region 17 with (fail)
      obtain ⟨W17, eW17, qW17⟩ : ∃ W, W = (W13.setCell ⟨k, 10, none⟩ (.bool false)).drew ∧ HB k [.slice a1 X.length e1, .slice a2 Y.length e2, .slice a3 Z.length e3, .slice a4 T.length e4, .int .i64 ma, .int .i64 mg, .int .i64 tk, .int .i64 (0), .int .i64 (0), .bool false, .bool false] w2 W   := ⟨_, rfl, by exact HB.is (((qW13.out.set 10 (.bool false) (by simp)).as rfl rfl rfl rfl)) rfl⟩
      rw [← eW17]
      replace eW17 := Lib.hid eW17
      have hW17 := qW17.held
      clear z0 z1 z2 z3 z4 z5 z6 z7 z8 z9 z10 qq0 qq1 qq2 qq3 qq4 qq5 qq6 qq7 qq8 qq9 qq10
      obtain ⟨z0, qq0⟩ := hW17.one 0 rfl
      obtain ⟨z1, qq1⟩ := hW17.one 1 rfl
      obtain ⟨z2, qq2⟩ := hW17.one 2 rfl
      obtain ⟨z3, qq3⟩ := hW17.one 3 rfl
      obtain ⟨z4, qq4⟩ := hW17.one 4 rfl
      obtain ⟨z5, qq5⟩ := hW17.one 5 rfl
      obtain ⟨z6, qq6⟩ := hW17.one 6 rfl
      obtain ⟨z7, qq7⟩ := hW17.one 7 rfl
      obtain ⟨z8, qq8⟩ := hW17.one 8 rfl
      obtain ⟨z9, qq9⟩ := hW17.one 9 rfl
      obtain ⟨z10, qq10⟩ := hW17.one 10 rfl
      clear hW17
      replace qW17 := Lib.hid qW17
      have hx : L ≤ M := by omega
      all_goals
        go_wp2
        go_ret
        have fin := qW17.out.fin rfl rfl rfl rfl
        have EO1 := EO.out
        have EU1 := EU.out
        rw [EO1.1, EO1.2, EU1.1, EU1.2]
        refine ⟨ret_int ?_, fin.1, B2.out.trans fin.2⟩
        first | (rw [decide_eq_true hx]; rfl) | (rw [decide_eq_false (show ¬ M < L by omega)]; rfl)
    · have ib1 : L ≤ v := hd.1
      have ib2 : v - mg < L := hd.2
      have ib3 : (0 : Int) < tk := by omega
      have EU : S' = 0 ∧ U' = Un := by
              rw [hS'.out, hU'.out]
              unfold dU dS
              refine ⟨?_, ?_⟩
              · first | rw [if_pos (by omega)] | rw [if_neg (by omega)]
              · first | rw [if_pos (by omega)] | rw [if_neg (by omega), if_pos (by first | (rw [if_pos (by omega)]; omega) | (rw [if_neg (by omega)]; omega))] | rw [if_neg (by omega), if_neg (by first | (rw [if_pos (by omega)]; omega) | (rw [if_neg (by omega)]; omega))]
      replace EU := Lib.hid EU
      clear hd hS' hU'
      go_upto_region 13 with (fail)
      obtain ⟨W13, eW13, qW13⟩ : ∃ W, W = ((W10.setCell ⟨k, 8, none⟩ (.int .i64 (S + 1))).setCell ⟨k, 8, none⟩ (.int .i64 0)) ∧ HB k [.slice a1 X.length e1, .slice a2 Y.length e2, .slice a3 Z.length e3, .slice a4 T.length e4, .int .i64 ma, .int .i64 mg, .int .i64 tk, .int .i64 (0), .int .i64 (0), .bool false, .bool Un] w2 W   := ⟨_, rfl, by exact HB.is (((qW10.out.set 8 (.int .i64 (S + 1)) (by simp)).set 8 (.int .i64 0) (by simp))) rfl⟩
      rw [← eW13]
      replace eW13 := Lib.hid eW13
      have hW13 := qW13.held
      clear z0 z1 z2 z3 z4 z5 z6 z7 z8 z9 z10 qq0 qq1 qq2 qq3 qq4 qq5 qq6 qq7 qq8 qq9 qq10
      obtain ⟨z0, qq0⟩ := hW13.one 0 rfl
      obtain ⟨z1, qq1⟩ := hW13.one 1 rfl
      obtain ⟨z2, qq2⟩ := hW13.one 2 rfl
      obtain ⟨z3, qq3⟩ := hW13.one 3 rfl
      obtain ⟨z4, qq4⟩ := hW13.one 4 rfl
      obtain ⟨z5, qq5⟩ := hW13.one 5 rfl
      obtain ⟨z6, qq6⟩ := hW13.one 6 rfl
      obtain ⟨z7, qq7⟩ := hW13.one 7 rfl
      obtain ⟨z8, qq8⟩ := hW13.one 8 rfl
      obtain ⟨z9, qq9⟩ := hW13.one 9 rfl
      obtain ⟨z10, qq10⟩ := hW13.one 10 rfl
      clear hW13
      replace qW13 := Lib.hid qW13
      refine region_still [] [(.free, 0), (.free, 1), (.free, 2), (.take, 3), (.free, 4), (.free, 5), (.free, 6), (.free, 7), (.take, 8), (.free, 9)] _ (by kernel_rfl) (by kernel_rfl) (by kernel_rfl) (by kernel_rfl) (by decide) rfl (fun _ _ _ _ _ h => h) ?_
      simp only [List.filterMap_cons, List.filterMap_nil, List.getElem?_toArray, List.getElem?_cons_zero, List.getElem?_cons_succ, Option.map_some]
      iterate 3
        first
          | (refine mv_free ?_ (Or.inl ⟨by rfl, ?_⟩) (rfl) ?_
             rotate_left 1
             · intro u
               go_simp
               try simp only [d1]
               try simp only [d2]
               try simp only [d3]
               try simp only [d4]
               try with_reducible rfl
             simp only [Act.put, List.setIfInBounds_toArray, List.set_cons_zero, List.set_cons_succ])
          | (refine mv_free _ (Or.inr ⟨by rfl, rfl⟩) (rfl) ?_
             simp only [Act.put, List.setIfInBounds_toArray, List.set_cons_zero, List.set_cons_succ])
      iterate 1
        first
          | (refine mv_take ?_ (Or.inl ⟨by rfl, ?_⟩) (rfl) ?_
             rotate_left 1
             · intro u hu
               (try dsimp only at hu)
               go_simp
               try with_reducible rfl
             simp only [Act.put, List.setIfInBounds_toArray, List.set_cons_zero, List.set_cons_succ])
          | (refine mv_take _ (Or.inr ⟨by rfl, rfl⟩) (rfl) ?_
             simp only [Act.put, List.setIfInBounds_toArray, List.set_cons_zero, List.set_cons_succ])
      iterate 4
        first
          | (refine mv_free ?_ (Or.inl ⟨by rfl, ?_⟩) (rfl) ?_
             rotate_left 1
             · intro u
               go_simp
               try simp only [d1]
               try simp only [d2]
               try simp only [d3]
               try simp only [d4]
               try with_reducible rfl
             simp only [Act.put, List.setIfInBounds_toArray, List.set_cons_zero, List.set_cons_succ])
          | (refine mv_free _ (Or.inr ⟨by rfl, rfl⟩) (rfl) ?_
             simp only [Act.put, List.setIfInBounds_toArray, List.set_cons_zero, List.set_cons_succ])
      iterate 1
        first
          | (refine mv_take ?_ (Or.inl ⟨by rfl, ?_⟩) (rfl) ?_
             rotate_left 1
             · intro u hu
               (try dsimp only at hu)
               go_simp
               try with_reducible rfl
             simp only [Act.put, List.setIfInBounds_toArray, List.set_cons_zero, List.set_cons_succ])
          | (refine mv_take _ (Or.inr ⟨by rfl, rfl⟩) (rfl) ?_
             simp only [Act.put, List.setIfInBounds_toArray, List.set_cons_zero, List.set_cons_succ])
      iterate 1
        first
          | (refine mv_free ?_ (Or.inl ⟨by rfl, ?_⟩) (rfl) ?_
             rotate_left 1
             · intro u
               go_simp
               try simp only [d1]
               try simp only [d2]
               try simp only [d3]
               try simp only [d4]
               try with_reducible rfl
             simp only [Act.put, List.setIfInBounds_toArray, List.set_cons_zero, List.set_cons_succ])
          | (refine mv_free _ (Or.inr ⟨by rfl, rfl⟩) (rfl) ?_
             simp only [Act.put, List.setIfInBounds_toArray, List.set_cons_zero, List.set_cons_succ])
      refine mv_done ?_
      go_upto_region 17 with (fail)
      obtain ⟨W17, eW17, qW17⟩ : ∃ W, W = W13.drew ∧ HB k [.slice a1 X.length e1, .slice a2 Y.length e2, .slice a3 Z.length e3, .slice a4 T.length e4, .int .i64 ma, .int .i64 mg, .int .i64 tk, .int .i64 (0), .int .i64 (0), .bool false, .bool Un] w2 W   := ⟨_, rfl, by exact HB.is ((qW13.out.as rfl rfl rfl rfl)) rfl⟩
      rw [← eW17]
      replace eW17 := Lib.hid eW17
      have hW17 := qW17.held
      clear z0 z1 z2 z3 z4 z5 z6 z7 z8 z9 z10 qq0 qq1 qq2 qq3 qq4 qq5 qq6 qq7 qq8 qq9 qq10
      obtain ⟨z0, qq0⟩ := hW17.one 0 rfl
      obtain ⟨z1, qq1⟩ := hW17.one 1 rfl
      obtain ⟨z2, qq2⟩ := hW17.one 2 rfl
      obtain ⟨z3, qq3⟩ := hW17.one 3 rfl
      obtain ⟨z4, qq4⟩ := hW17.one 4 rfl
      obtain ⟨z5, qq5⟩ := hW17.one 5 rfl
      obtain ⟨z6, qq6⟩ := hW17.one 6 rfl
      obtain ⟨z7, qq7⟩ := hW17.one 7 rfl
      obtain ⟨z8, qq8⟩ := hW17.one 8 rfl
      obtain ⟨z9, qq9⟩ := hW17.one 9 rfl
      obtain ⟨z10, qq10⟩ := hW17.one 10 rfl
      clear hW17
      replace qW17 := Lib.hid qW17
      have hx : L ≤ M := by omega
      all_goals cases Un
      all_goals
        go_wp2
        go_ret
        have fin := qW17.out.fin rfl rfl rfl rfl
        have EO1 := EO.out
        have EU1 := EU.out
        rw [EO1.1, EO1.2, EU1.1, EU1.2]
        refine ⟨ret_int ?_, fin.1, B2.out.trans fin.2⟩
        first | (rw [decide_eq_true hx]; rfl) | (rw [decide_eq_false (show ¬ M < L by omega)]; rfl)
    · have ib1 : v < L := hd.1
      have ib2 : v - mg < L := by omega
      have ib3 : tk ≤ S + 1 := hd.2
      have EU : S' = S + 1 ∧ U' = true := by
              rw [hS'.out, hU'.out]
              unfold dU dS
              refine ⟨?_, ?_⟩
              · first | rw [if_pos (by omega)] | rw [if_neg (by omega)]
              · first | rw [if_pos (by omega)] | rw [if_neg (by omega), if_pos (by first | (rw [if_pos (by omega)]; omega) | (rw [if_neg (by omega)]; omega))] | rw [if_neg (by omega), if_neg (by first | (rw [if_pos (by omega)]; omega) | (rw [if_neg (by omega)]; omega))]
      replace EU := Lib.hid EU
      clear hd hS' hU'
      go_upto_region 13 with (fail)
      obtain ⟨W13, eW13, qW13⟩ : ∃ W, W = (W10.setCell ⟨k, 8, none⟩ (.int .i64 (S + 1))) ∧ HB k [.slice a1 X.length e1, .slice a2 Y.length e2, .slice a3 Z.length e3, .slice a4 T.length e4, .int .i64 ma, .int .i64 mg, .int .i64 tk, .int .i64 (0), .int .i64 (S + 1), .bool false, .bool Un] w2 W   := ⟨_, rfl, by exact HB.is ((qW10.out.set 8 (.int .i64 (S + 1)) (by simp))) rfl⟩
      rw [← eW13]
      replace eW13 := Lib.hid eW13
      have hW13 := qW13.held
      clear z0 z1 z2 z3 z4 z5 z6 z7 z8 z9 z10 qq0 qq1 qq2 qq3 qq4 qq5 qq6 qq7 qq8 qq9 qq10
      obtain ⟨z0, qq0⟩ := hW13.one 0 rfl
      obtain ⟨z1, qq1⟩ := hW13.one 1 rfl
      obtain ⟨z2, qq2⟩ := hW13.one 2 rfl
      obtain ⟨z3, qq3⟩ := hW13.one 3 rfl
      obtain ⟨z4, qq4⟩ := hW13.one 4 rfl
      obtain ⟨z5, qq5⟩ := hW13.one 5 rfl
      obtain ⟨z6, qq6⟩ := hW13.one 6 rfl
      obtain ⟨z7, qq7⟩ := hW13.one 7 rfl
      obtain ⟨z8, qq8⟩ := hW13.one 8 rfl
      obtain ⟨z9, qq9⟩ := hW13.one 9 rfl
      obtain ⟨z10, qq10⟩ := hW13.one 10 rfl
      clear hW13
      replace qW13 := Lib.hid qW13
      refine region_still [] [(.free, 0), (.free, 1), (.free, 2), (.take, 3), (.free, 4), (.free, 5), (.free, 6), (.free, 7), (.take, 8), (.free, 9)] _ (by kernel_rfl) (by kernel_rfl) (by kernel_rfl) (by kernel_rfl) (by decide) rfl (fun _ _ _ _ _ h => h) ?_
      simp only [List.filterMap_cons, List.filterMap_nil, List.getElem?_toArray, List.getElem?_cons_zero, List.getElem?_cons_succ, Option.map_some]
      iterate 3
        first
          | (refine mv_free ?_ (Or.inl ⟨by rfl, ?_⟩) (rfl) ?_
             rotate_left 1
             · intro u
               go_simp
               try simp only [d1]
               try simp only [d2]
               try simp only [d3]
               try simp only [d4]
               try with_reducible rfl
             simp only [Act.put, List.setIfInBounds_toArray, List.set_cons_zero, List.set_cons_succ])
          | (refine mv_free _ (Or.inr ⟨by rfl, rfl⟩) (rfl) ?_
             simp only [Act.put, List.setIfInBounds_toArray, List.set_cons_zero, List.set_cons_succ])
      iterate 1
        first
          | (refine mv_take ?_ (Or.inl ⟨by rfl, ?_⟩) (rfl) ?_
             rotate_left 1
             · intro u hu
               (try dsimp only at hu)
               go_simp
               try with_reducible rfl
             simp only [Act.put, List.setIfInBounds_toArray, List.set_cons_zero, List.set_cons_succ])
          | (refine mv_take _ (Or.inr ⟨by rfl, rfl⟩) (rfl) ?_
             simp only [Act.put, List.setIfInBounds_toArray, List.set_cons_zero, List.set_cons_succ])
      iterate 4
        first
          | (refine mv_free ?_ (Or.inl ⟨by rfl, ?_⟩) (rfl) ?_
             rotate_left 1
             · intro u
               go_simp
               try simp only [d1]
               try simp only [d2]
               try simp only [d3]
               try simp only [d4]
               try with_reducible rfl
             simp only [Act.put, List.setIfInBounds_toArray, List.set_cons_zero, List.set_cons_succ])
          | (refine mv_free _ (Or.inr ⟨by rfl, rfl⟩) (rfl) ?_
             simp only [Act.put, List.setIfInBounds_toArray, List.set_cons_zero, List.set_cons_succ])
      iterate 1
        first
          | (refine mv_take ?_ (Or.inl ⟨by rfl, ?_⟩) (rfl) ?_
             rotate_left 1
             · intro u hu
               (try dsimp only at hu)
               go_simp
               try with_reducible rfl
             simp only [Act.put, List.setIfInBounds_toArray, List.set_cons_zero, List.set_cons_succ])
          | (refine mv_take _ (Or.inr ⟨by rfl, rfl⟩) (rfl) ?_
             simp only [Act.put, List.setIfInBounds_toArray, List.set_cons_zero, List.set_cons_succ])
      iterate 1
        first
          | (refine mv_free ?_ (Or.inl ⟨by rfl, ?_⟩) (rfl) ?_
             rotate_left 1
             · intro u
               go_simp
               try simp only [d1]
               try simp only [d2]
               try simp only [d3]
               try simp only [d4]
               try with_reducible rfl
             simp only [Act.put, List.setIfInBounds_toArray, List.set_cons_zero, List.set_cons_succ])
          | (refine mv_free _ (Or.inr ⟨by rfl, rfl⟩) (rfl) ?_
             simp only [Act.put, List.setIfInBounds_toArray, List.set_cons_zero, List.set_cons_succ])
      refine mv_done ?_
      go_upto_region 17 with (fail)
      obtain ⟨W17, eW17, qW17⟩ : ∃ W, W = (W13.setCell ⟨k, 10, none⟩ (.bool true)).drew ∧ HB k [.slice a1 X.length e1, .slice a2 Y.length e2, .slice a3 Z.length e3, .slice a4 T.length e4, .int .i64 ma, .int .i64 mg, .int .i64 tk, .int .i64 (0), .int .i64 (S + 1), .bool false, .bool true] w2 W   := ⟨_, rfl, by exact HB.is (((qW13.out.set 10 (.bool true) (by simp)).as rfl rfl rfl rfl)) rfl⟩
      rw [← eW17]
      replace eW17 := Lib.hid eW17
      have hW17 := qW17.held
      clear z0 z1 z2 z3 z4 z5 z6 z7 z8 z9 z10 qq0 qq1 qq2 qq3 qq4 qq5 qq6 qq7 qq8 qq9 qq10
      obtain ⟨z0, qq0⟩ := hW17.one 0 rfl
      obtain ⟨z1, qq1⟩ := hW17.one 1 rfl
      obtain ⟨z2, qq2⟩ := hW17.one 2 rfl
      obtain ⟨z3, qq3⟩ := hW17.one 3 rfl
      obtain ⟨z4, qq4⟩ := hW17.one 4 rfl
      obtain ⟨z5, qq5⟩ := hW17.one 5 rfl
      obtain ⟨z6, qq6⟩ := hW17.one 6 rfl
      obtain ⟨z7, qq7⟩ := hW17.one 7 rfl
      obtain ⟨z8, qq8⟩ := hW17.one 8 rfl
      obtain ⟨z9, qq9⟩ := hW17.one 9 rfl
      obtain ⟨z10, qq10⟩ := hW17.one 10 rfl
      clear hW17
      replace qW17 := Lib.hid qW17
      rcases (show M < L ∨ L ≤ M by omega) with hx | hx
      all_goals
        go_wp2
        go_ret
        have fin := qW17.out.fin rfl rfl rfl rfl
        have EO1 := EO.out
        have EU1 := EU.out
        rw [EO1.1, EO1.2, EU1.1, EU1.2]
        refine ⟨ret_int ?_, fin.1, B2.out.trans fin.2⟩
        first | (rw [decide_eq_true hx]; rfl) | (rw [decide_eq_false (show ¬ M < L by omega)]; rfl)
    · have ib1 : v < L := hd.1
      have ib2 : v - mg < L := by omega
      have ib3 : S + 1 < tk := hd.2
      have EU : S' = S + 1 ∧ U' = Un := by
              rw [hS'.out, hU'.out]
              unfold dU dS
              refine ⟨?_, ?_⟩
              · first | rw [if_pos (by omega)] | rw [if_neg (by omega)]
              · first | rw [if_pos (by omega)] | rw [if_neg (by omega), if_pos (by first | (rw [if_pos (by omega)]; omega) | (rw [if_neg (by omega)]; omega))] | rw [if_neg (by omega), if_neg (by first | (rw [if_pos (by omega)]; omega) | (rw [if_neg (by omega)]; omega))]
      replace EU := Lib.hid EU
      clear hd hS' hU'
      go_upto_region 13 with (fail)
      obtain ⟨W13, eW13, qW13⟩ : ∃ W, W = (W10.setCell ⟨k, 8, none⟩ (.int .i64 (S + 1))) ∧ HB k [.slice a1 X.length e1, .slice a2 Y.length e2, .slice a3 Z.length e3, .slice a4 T.length e4, .int .i64 ma, .int .i64 mg, .int .i64 tk, .int .i64 (0), .int .i64 (S + 1), .bool false, .bool Un] w2 W   := ⟨_, rfl, by exact HB.is ((qW10.out.set 8 (.int .i64 (S + 1)) (by simp))) rfl⟩
      rw [← eW13]
      replace eW13 := Lib.hid eW13
      have hW13 := qW13.held
      clear z0 z1 z2 z3 z4 z5 z6 z7 z8 z9 z10 qq0 qq1 qq2 qq3 qq4 qq5 qq6 qq7 qq8 qq9 qq10
      obtain ⟨z0, qq0⟩ := hW13.one 0 rfl
      obtain ⟨z1, qq1⟩ := hW13.one 1 rfl
      obtain ⟨z2, qq2⟩ := hW13.one 2 rfl
      obtain ⟨z3, qq3⟩ := hW13.one 3 rfl
      obtain ⟨z4, qq4⟩ := hW13.one 4 rfl
      obtain ⟨z5, qq5⟩ := hW13.one 5 rfl
      obtain ⟨z6, qq6⟩ := hW13.one 6 rfl
      obtain ⟨z7, qq7⟩ := hW13.one 7 rfl
      obtain ⟨z8, qq8⟩ := hW13.one 8 rfl
      obtain ⟨z9, qq9⟩ := hW13.one 9 rfl
      obtain ⟨z10, qq10⟩ := hW13.one 10 rfl
      clear hW13
      replace qW13 := Lib.hid qW13
      refine region_still [] [(.free, 0), (.free, 1), (.free, 2), (.take, 3), (.free, 4), (.free, 5), (.free, 6), (.free, 7), (.take, 8), (.free, 9)] _ (by kernel_rfl) (by kernel_rfl) (by kernel_rfl) (by kernel_rfl) (by decide) rfl (fun _ _ _ _ _ h => h) ?_
      simp only [List.filterMap_cons, List.filterMap_nil, List.getElem?_toArray, List.getElem?_cons_zero, List.getElem?_cons_succ, Option.map_some]
      iterate 3
        first
          | (refine mv_free ?_ (Or.inl ⟨by rfl, ?_⟩) (rfl) ?_
             rotate_left 1
             · intro u
               go_simp
               try simp only [d1]
               try simp only [d2]
               try simp only [d3]
               try simp only [d4]
               try with_reducible rfl
             simp only [Act.put, List.setIfInBounds_toArray, List.set_cons_zero, List.set_cons_succ])
          | (refine mv_free _ (Or.inr ⟨by rfl, rfl⟩) (rfl) ?_
             simp only [Act.put, List.setIfInBounds_toArray, List.set_cons_zero, List.set_cons_succ])
      iterate 1
        first
          | (refine mv_take ?_ (Or.inl ⟨by rfl, ?_⟩) (rfl) ?_
             rotate_left 1
             · intro u hu
               (try dsimp only at hu)
               go_simp
               try with_reducible rfl
             simp only [Act.put, List.setIfInBounds_toArray, List.set_cons_zero, List.set_cons_succ])
          | (refine mv_take _ (Or.inr ⟨by rfl, rfl⟩) (rfl) ?_
             simp only [Act.put, List.setIfInBounds_toArray, List.set_cons_zero, List.set_cons_succ])
      iterate 4
        first
          | (refine mv_free ?_ (Or.inl ⟨by rfl, ?_⟩) (rfl) ?_
             rotate_left 1
             · intro u
               go_simp
               try simp only [d1]
               try simp only [d2]
               try simp only [d3]
               try simp only [d4]
               try with_reducible rfl
             simp only [Act.put, List.setIfInBounds_toArray, List.set_cons_zero, List.set_cons_succ])
          | (refine mv_free _ (Or.inr ⟨by rfl, rfl⟩) (rfl) ?_
             simp only [Act.put, List.setIfInBounds_toArray, List.set_cons_zero, List.set_cons_succ])
      iterate 1
        first
          | (refine mv_take ?_ (Or.inl ⟨by rfl, ?_⟩) (rfl) ?_
             rotate_left 1
             · intro u hu
               (try dsimp only at hu)
               go_simp
               try with_reducible rfl
             simp only [Act.put, List.setIfInBounds_toArray, List.set_cons_zero, List.set_cons_succ])
          | (refine mv_take _ (Or.inr ⟨by rfl, rfl⟩) (rfl) ?_
             simp only [Act.put, List.setIfInBounds_toArray, List.set_cons_zero, List.set_cons_succ])
      iterate 1
        first
          | (refine mv_free ?_ (Or.inl ⟨by rfl, ?_⟩) (rfl) ?_
             rotate_left 1
             · intro u
               go_simp
               try simp only [d1]
               try simp only [d2]
               try simp only [d3]
               try simp only [d4]
               try with_reducible rfl
             simp only [Act.put, List.setIfInBounds_toArray, List.set_cons_zero, List.set_cons_succ])
          | (refine mv_free _ (Or.inr ⟨by rfl, rfl⟩) (rfl) ?_
             simp only [Act.put, List.setIfInBounds_toArray, List.set_cons_zero, List.set_cons_succ])
      refine mv_done ?_
      go_upto_region 17 with (fail)
      obtain ⟨W17, eW17, qW17⟩ : ∃ W, W = W13.drew ∧ HB k [.slice a1 X.length e1, .slice a2 Y.length e2, .slice a3 Z.length e3, .slice a4 T.length e4, .int .i64 ma, .int .i64 mg, .int .i64 tk, .int .i64 (0), .int .i64 (S + 1), .bool false, .bool Un] w2 W   := ⟨_, rfl, by exact HB.is ((qW13.out.as rfl rfl rfl rfl)) rfl⟩
      rw [← eW17]
      replace eW17 := Lib.hid eW17
      have hW17 := qW17.held
      clear z0 z1 z2 z3 z4 z5 z6 z7 z8 z9 z10 qq0 qq1 qq2 qq3 qq4 qq5 qq6 qq7 qq8 qq9 qq10
      obtain ⟨z0, qq0⟩ := hW17.one 0 rfl
      obtain ⟨z1, qq1⟩ := hW17.one 1 rfl
      obtain ⟨z2, qq2⟩ := hW17.one 2 rfl
      obtain ⟨z3, qq3⟩ := hW17.one 3 rfl
      obtain ⟨z4, qq4⟩ := hW17.one 4 rfl
      obtain ⟨z5, qq5⟩ := hW17.one 5 rfl
      obtain ⟨z6, qq6⟩ := hW17.one 6 rfl
      obtain ⟨z7, qq7⟩ := hW17.one 7 rfl
      obtain ⟨z8, qq8⟩ := hW17.one 8 rfl
      obtain ⟨z9, qq9⟩ := hW17.one 9 rfl
      obtain ⟨z10, qq10⟩ := hW17.one 10 rfl
      clear hW17
      replace qW17 := Lib.hid qW17
      rcases (show M < L ∨ L ≤ M by omega) with hx | hx
      all_goals cases Un
      all_goals
        go_wp2
        go_ret
        have fin := qW17.out.fin rfl rfl rfl rfl
        have EO1 := EO.out
        have EU1 := EU.out
        rw [EO1.1, EO1.2, EU1.1, EU1.2]
        refine ⟨ret_int ?_, fin.1, B2.out.trans fin.2⟩
        first | (rw [decide_eq_true hx]; rfl) | (rw [decide_eq_false (show ¬ M < L by omega)]; rfl)
  · have ia1 : v ≤ M := hc.1
    have ia2 : M < v + mg := hc.2
    have ia3 : (0 : Int) < tk := by omega
    have EO : F' = 0 ∧ O' = O := by
          rw [hF'.out, hO'.out]
          unfold dO dF
          refine ⟨?_, ?_⟩
          · first | rw [if_pos (by omega)] | rw [if_neg (by omega)]
          · first | rw [if_pos (by omega)] | rw [if_neg (by omega), if_pos (by first | (rw [if_pos (by omega)]; omega) | (rw [if_neg (by omega)]; omega))] | rw [if_neg (by omega), if_neg (by first | (rw [if_pos (by omega)]; omega) | (rw [if_neg (by omega)]; omega))]
    replace EO := Lib.hid EO
    clear hc hF' hO'
    go_upto_region 6 with (fail)
    obtain ⟨W6, eW6, qW6⟩ : ∃ W, W = ((w2.setCell ⟨k, 7, none⟩ (.int .i64 (F + 1))).setCell ⟨k, 7, none⟩ (.int .i64 0)) ∧ HB k [.slice a1 X.length e1, .slice a2 Y.length e2, .slice a3 Z.length e3, .slice a4 T.length e4, .int .i64 ma, .int .i64 mg, .int .i64 tk, .int .i64 (0), .int .i64 S, .bool O, .bool Un] w2 W   := ⟨_, rfl, by exact HB.is ((((HB.start h2.out).set 7 (.int .i64 (F + 1)) (by simp)).set 7 (.int .i64 0) (by simp))) rfl⟩
    rw [← eW6]
    replace eW6 := Lib.hid eW6
    have hW6 := qW6.held
    clear z0 z1 z2 z3 z4 z5 z6 z7 z8 z9 z10 qq0 qq1 qq2 qq3 qq4 qq5 qq6 qq7 qq8 qq9 qq10
    obtain ⟨z0, qq0⟩ := hW6.one 0 rfl
    obtain ⟨z1, qq1⟩ := hW6.one 1 rfl
    obtain ⟨z2, qq2⟩ := hW6.one 2 rfl
    obtain ⟨z3, qq3⟩ := hW6.one 3 rfl
    obtain ⟨z4, qq4⟩ := hW6.one 4 rfl
    obtain ⟨z5, qq5⟩ := hW6.one 5 rfl
    obtain ⟨z6, qq6⟩ := hW6.one 6 rfl
    obtain ⟨z7, qq7⟩ := hW6.one 7 rfl
    obtain ⟨z8, qq8⟩ := hW6.one 8 rfl
    obtain ⟨z9, qq9⟩ := hW6.one 9 rfl
    obtain ⟨z10, qq10⟩ := hW6.one 10 rfl
    clear hW6
    replace qW6 := Lib.hid qW6
    refine region_still [] [(.free, 0), (.free, 1), (.free, 2), (.take, 3), (.free, 4), (.free, 5), (.free, 6), (.free, 7), (.take, 8), (.free, 9)] _ (by kernel_rfl) (by kernel_rfl) (by kernel_rfl) (by kernel_rfl) (by decide) rfl (fun _ _ _ _ _ h => h) ?_
    simp only [List.filterMap_cons, List.filterMap_nil, List.getElem?_toArray, List.getElem?_cons_zero, List.getElem?_cons_succ, Option.map_some]
    iterate 3
      first
        | (refine mv_free ?_ (Or.inl ⟨by rfl, ?_⟩) (rfl) ?_
           rotate_left 1
           · intro u
             go_simp
             try simp only [d1]
             try simp only [d2]
             try simp only [d3]
             try simp only [d4]
             try with_reducible rfl
           simp only [Act.put, List.setIfInBounds_toArray, List.set_cons_zero, List.set_cons_succ])
        | (refine mv_free _ (Or.inr ⟨by rfl, rfl⟩) (rfl) ?_
           simp only [Act.put, List.setIfInBounds_toArray, List.set_cons_zero, List.set_cons_succ])
    iterate 1
      first
        | (refine mv_take ?_ (Or.inl ⟨by rfl, ?_⟩) (rfl) ?_
           rotate_left 1
           · intro u hu
             (try dsimp only at hu)
             go_simp
             try with_reducible rfl
           simp only [Act.put, List.setIfInBounds_toArray, List.set_cons_zero, List.set_cons_succ])
        | (refine mv_take _ (Or.inr ⟨by rfl, rfl⟩) (rfl) ?_
           simp only [Act.put, List.setIfInBounds_toArray, List.set_cons_zero, List.set_cons_succ])
    iterate 4
      first
        | (refine mv_free ?_ (Or.inl ⟨by rfl, ?_⟩) (rfl) ?_
           rotate_left 1
           · intro u
             go_simp
             try simp only [d1]
             try simp only [d2]
             try simp only [d3]
             try simp only [d4]
             try with_reducible rfl
           simp only [Act.put, List.setIfInBounds_toArray, List.set_cons_zero, List.set_cons_succ])
        | (refine mv_free _ (Or.inr ⟨by rfl, rfl⟩) (rfl) ?_
           simp only [Act.put, List.setIfInBounds_toArray, List.set_cons_zero, List.set_cons_succ])
    iterate 1
      first
        | (refine mv_take ?_ (Or.inl ⟨by rfl, ?_⟩) (rfl) ?_
           rotate_left 1
           · intro u hu
             (try dsimp only at hu)
             go_simp
             try with_reducible rfl
           simp only [Act.put, List.setIfInBounds_toArray, List.set_cons_zero, List.set_cons_succ])
        | (refine mv_take _ (Or.inr ⟨by rfl, rfl⟩) (rfl) ?_
           simp only [Act.put, List.setIfInBounds_toArray, List.set_cons_zero, List.set_cons_succ])
    iterate 1
      first
        | (refine mv_free ?_ (Or.inl ⟨by rfl, ?_⟩) (rfl) ?_
           rotate_left 1
           · intro u
             go_simp
             try simp only [d1]
             try simp only [d2]
             try simp only [d3]
             try simp only [d4]
             try with_reducible rfl
           simp only [Act.put, List.setIfInBounds_toArray, List.set_cons_zero, List.set_cons_succ])
        | (refine mv_free _ (Or.inr ⟨by rfl, rfl⟩) (rfl) ?_
           simp only [Act.put, List.setIfInBounds_toArray, List.set_cons_zero, List.set_cons_succ])
    refine mv_done ?_
    go_upto_region 10 with (fail)
    obtain ⟨W10, eW10, qW10⟩ : ∃ W, W = W6.drew ∧ HB k [.slice a1 X.length e1, .slice a2 Y.length e2, .slice a3 Z.length e3, .slice a4 T.length e4, .int .i64 ma, .int .i64 mg, .int .i64 tk, .int .i64 (0), .int .i64 S, .bool O, .bool Un] w2 W   := ⟨_, rfl, by exact HB.is ((qW6.out.as rfl rfl rfl rfl)) rfl⟩
    rw [← eW10]
    replace eW10 := Lib.hid eW10
    have hW10 := qW10.held
    clear z0 z1 z2 z3 z4 z5 z6 z7 z8 z9 z10 qq0 qq1 qq2 qq3 qq4 qq5 qq6 qq7 qq8 qq9 qq10
    obtain ⟨z0, qq0⟩ := hW10.one 0 rfl
    obtain ⟨z1, qq1⟩ := hW10.one 1 rfl
    obtain ⟨z2, qq2⟩ := hW10.one 2 rfl
    obtain ⟨z3, qq3⟩ := hW10.one 3 rfl
    obtain ⟨z4, qq4⟩ := hW10.one 4 rfl
    obtain ⟨z5, qq5⟩ := hW10.one 5 rfl
    obtain ⟨z6, qq6⟩ := hW10.one 6 rfl
    obtain ⟨z7, qq7⟩ := hW10.one 7 rfl
    obtain ⟨z8, qq8⟩ := hW10.one 8 rfl
    obtain ⟨z9, qq9⟩ := hW10.one 9 rfl
    obtain ⟨z10, qq10⟩ := hW10.one 10 rfl
    clear hW10
    replace qW10 := Lib.hid qW10
    rcases (show (L ≤ v ∧ L ≤ v - mg) ∨ (L ≤ v ∧ v - mg < L) ∨ (v < L ∧ tk ≤ S + 1) ∨ (v < L ∧ S + 1 < tk) by omega) with hd | hd | hd | hd
    · have ib1 : L ≤ v := hd.1
      have ib2 : L ≤ v - mg := hd.2
      have ib3 : (0 : Int) < tk := by omega
      have EU : S' = 0 ∧ U' = false := by
              rw [hS'.out, hU'.out]
              unfold dU dS
              refine ⟨?_, ?_⟩
              · first | rw [if_pos (by omega)] | rw [if_neg (by omega)]
              · first | rw [if_pos (by omega)] | rw [if_neg (by omega), if_pos (by first | (rw [if_pos (by omega)]; omega) | (rw [if_neg (by omega)]; omega))] | rw [if_neg (by omega), if_neg (by first | (rw [if_pos (by omega)]; omega) | (rw [if_neg (by omega)]; omega))]
      replace EU := Lib.hid EU
      clear hd hS' hU'
      go_upto_region 13 with (fail)
      obtain ⟨W13, eW13, qW13⟩ : ∃ W, W = ((W10.setCell ⟨k, 8, none⟩ (.int .i64 (S + 1))).setCell ⟨k, 8, none⟩ (.int .i64 0)) ∧ HB k [.slice a1 X.length e1, .slice a2 Y.length e2, .slice a3 Z.length e3, .slice a4 T.length e4, .int .i64 ma, .int .i64 mg, .int .i64 tk, .int .i64 (0), .int .i64 (0), .bool O, .bool Un] w2 W   := ⟨_, rfl, by exact HB.is (((qW10.out.set 8 (.int .i64 (S + 1)) (by simp)).set 8 (.int .i64 0) (by simp))) rfl⟩
      rw [← eW13]
      replace eW13 := Lib.hid eW13
      have hW13 := qW13.held
      clear z0 z1 z2 z3 z4 z5 z6 z7 z8 z9 z10 qq0 qq1 qq2 qq3 qq4 qq5 qq6 qq7 qq8 qq9 qq10
      obtain ⟨z0, qq0⟩ := hW13.one 0 rfl
      obtain ⟨z1, qq1⟩ := hW13.one 1 rfl
      obtain ⟨z2, qq2⟩ := hW13.one 2 rfl
      obtain ⟨z3, qq3⟩ := hW13.one 3 rfl
      obtain ⟨z4, qq4⟩ := hW13.one 4 rfl
      obtain ⟨z5, qq5⟩ := hW13.one 5 rfl
      obtain ⟨z6, qq6⟩ := hW13.one 6 rfl
      obtain ⟨z7, qq7⟩ := hW13.one 7 rfl
      obtain ⟨z8, qq8⟩ := hW13.one 8 rfl
      obtain ⟨z9, qq9⟩ := hW13.one 9 rfl
      obtain ⟨z10, qq10⟩ := hW13.one 10 rfl
      clear hW13
      replace qW13 := Lib.hid qW13
      refine region_still [] [(.free, 0), (.free, 1), (.free, 2), (.take, 3), (.free, 4), (.free, 5), (.free, 6), (.free, 7), (.take, 8), (.free, 9)] _ (by kernel_rfl) (by kernel_rfl) (by kernel_rfl) (by kernel_rfl) (by decide) rfl (fun _ _ _ _ _ h => h) ?_
      simp only [List.filterMap_cons, List.filterMap_nil, List.getElem?_toArray, List.getElem?_cons_zero, List.getElem?_cons_succ, Option.map_some]
      iterate 3
        first
          | (refine mv_free ?_ (Or.inl ⟨by rfl, ?_⟩) (rfl) ?_
             rotate_left 1
             · intro u
               go_simp
               try simp only [d1]
               try simp only [d2]
               try simp only [d3]
               try simp only [d4]
               try with_reducible rfl
             simp only [Act.put, List.setIfInBounds_toArray, List.set_cons_zero, List.set_cons_succ])
          | (refine mv_free _ (Or.inr ⟨by rfl, rfl⟩) (rfl) ?_
             simp only [Act.put, List.setIfInBounds_toArray, List.set_cons_zero, List.set_cons_succ])
      iterate 1
        first
          | (refine mv_take ?_ (Or.inl ⟨by rfl, ?_⟩) (rfl) ?_
             rotate_left 1
             · intro u hu
               (try dsimp only at hu)
               go_simp
               try with_reducible rfl
             simp only [Act.put, List.setIfInBounds_toArray, List.set_cons_zero, List.set_cons_succ])
          | (refine mv_take _ (Or.inr ⟨by rfl, rfl⟩) (rfl) ?_
             simp only [Act.put, List.setIfInBounds_toArray, List.set_cons_zero, List.set_cons_succ])
      iterate 4
        first
          | (refine mv_free ?_ (Or.inl ⟨by rfl, ?_⟩) (rfl) ?_
             rotate_left 1
             · intro u
               go_simp
               try simp only [d1]
               try simp only [d2]
               try simp only [d3]
               try simp only [d4]
               try with_reducible rfl
             simp only [Act.put, List.setIfInBounds_toArray, List.set_cons_zero, List.set_cons_succ])
          | (refine mv_free _ (Or.inr ⟨by rfl, rfl⟩) (rfl) ?_
             simp only [Act.put, List.setIfInBounds_toArray, List.set_cons_zero, List.set_cons_succ])
      iterate 1
        first
          | (refine mv_take ?_ (Or.inl ⟨by rfl, ?_⟩) (rfl) ?_
             rotate_left 1
             · intro u hu
               (try dsimp only at hu)
               go_simp
               try with_reducible rfl
             simp only [Act.put, List.setIfInBounds_toArray, List.set_cons_zero, List.set_cons_succ])
          | (refine mv_take _ (Or.inr ⟨by rfl, rfl⟩) (rfl) ?_
             simp only [Act.put, List.setIfInBounds_toArray, List.set_cons_zero, List.set_cons_succ])
      iterate 1
        first
          | (refine mv_free ?_ (Or.inl ⟨by rfl, ?_⟩) (rfl) ?_
             rotate_left 1
             · intro u
               go_simp
               try simp only [d1]
               try simp only [d2]
               try simp only [d3]
               try simp only [d4]
               try with_reducible rfl
             simp only [Act.put, List.setIfInBounds_toArray, List.set_cons_zero, List.set_cons_succ])
          | (refine mv_free _ (Or.inr ⟨by rfl, rfl⟩) (rfl) ?_
             simp only [Act.put, List.setIfInBounds_toArray, List.set_cons_zero, List.set_cons_succ])
      refine mv_done ?_
      go_upto_region 17 with (fail)
      obtain ⟨W17, eW17, qW17⟩ : ∃ W, W = (W13.setCell ⟨k, 10, none⟩ (.bool false)).drew ∧ HB k [.slice a1 X.length e1, .slice a2 Y.length e2, .slice a3 Z.length e3, .slice a4 T.length e4, .int .i64 ma, .int .i64 mg, .int .i64 tk, .int .i64 (0), .int .i64 (0), .bool O, .bool false] w2 W   := ⟨_, rfl, by exact HB.is (((qW13.out.set 10 (.bool false) (by simp)).as rfl rfl rfl rfl)) rfl⟩
      rw [← eW17]
      replace eW17 := Lib.hid eW17
      have hW17 := qW17.held
      clear z0 z1 z2 z3 z4 z5 z6 z7 z8 z9 z10 qq0 qq1 qq2 qq3 qq4 qq5 qq6 qq7 qq8 qq9 qq10
      obtain ⟨z0, qq0⟩ := hW17.one 0 rfl
      obtain ⟨z1, qq1⟩ := hW17.one 1 rfl
      obtain ⟨z2, qq2⟩ := hW17.one 2 rfl
      obtain ⟨z3, qq3⟩ := hW17.one 3 rfl
      obtain ⟨z4, qq4⟩ := hW17.one 4 rfl
      obtain ⟨z5, qq5⟩ := hW17.one 5 rfl
      obtain ⟨z6, qq6⟩ := hW17.one 6 rfl
      obtain ⟨z7, qq7⟩ := hW17.one 7 rfl
      obtain ⟨z8, qq8⟩ := hW17.one 8 rfl
      obtain ⟨z9, qq9⟩ := hW17.one 9 rfl
      obtain ⟨z10, qq10⟩ := hW17.one 10 rfl
      clear hW17
      replace qW17 := Lib.hid qW17
      have hx : L ≤ M := by omega
      all_goals cases O
      all_goals
        go_wp2
        go_ret
        have fin := qW17.out.fin rfl rfl rfl rfl
        have EO1 := EO.out
        have EU1 := EU.out
        rw [EO1.1, EO1.2, EU1.1, EU1.2]
        refine ⟨ret_int ?_, fin.1, B2.out.trans fin.2⟩
        first | (rw [decide_eq_true hx]; rfl) | (rw [decide_eq_false (show ¬ M < L by omega)]; rfl)
    · have ib1 : L ≤ v := hd.1
      have ib2 : v - mg < L := hd.2
      have ib3 : (0 : Int) < tk := by omega
      have EU : S' = 0 ∧ U' = Un := by
              rw [hS'.out, hU'.out]
              unfold dU dS
              refine ⟨?_, ?_⟩
              · first | rw [if_pos (by omega)] | rw [if_neg (by omega)]
              · first | rw [if_pos (by omega)] | rw [if_neg (by omega), if_pos (by first | (rw [if_pos (by omega)]; omega) | (rw [if_neg (by omega)]; omega))] | rw [if_neg (by omega), if_neg (by first | (rw [if_pos (by omega)]; omega) | (rw [if_neg (by omega)]; omega))]
      replace EU := Lib.hid EU
      clear hd hS' hU'
      go_upto_region 13 with (fail)
      obtain ⟨W13, eW13, qW13⟩ : ∃ W, W = ((W10.setCell ⟨k, 8, none⟩ (.int .i64 (S + 1))).setCell ⟨k, 8, none⟩ (.int .i64 0)) ∧ HB k [.slice a1 X.length e1, .slice a2 Y.length e2, .slice a3 Z.length e3, .slice a4 T.length e4, .int .i64 ma, .int .i64 mg, .int .i64 tk, .int .i64 (0), .int .i64 (0), .bool O, .bool Un] w2 W   := ⟨_, rfl, by exact HB.is (((qW10.out.set 8 (.int .i64 (S + 1)) (by simp)).set 8 (.int .i64 0) (by simp))) rfl⟩
      rw [← eW13]
      replace eW13 := Lib.hid eW13
      have hW13 := qW13.held
      clear z0 z1 z2 z3 z4 z5 z6 z7 z8 z9 z10 qq0 qq1 qq2 qq3 qq4 qq5 qq6 qq7 qq8 qq9 qq10
      obtain ⟨z0, qq0⟩ := hW13.one 0 rfl
      obtain ⟨z1, qq1⟩ := hW13.one 1 rfl
      obtain ⟨z2, qq2⟩ := hW13.one 2 rfl
      obtain ⟨z3, qq3⟩ := hW13.one 3 rfl
      obtain ⟨z4, qq4⟩ := hW13.one 4 rfl
      obtain ⟨z5, qq5⟩ := hW13.one 5 rfl
      obtain ⟨z6, qq6⟩ := hW13.one 6 rfl
      obtain ⟨z7, qq7⟩ := hW13.one 7 rfl
      obtain ⟨z8, qq8⟩ := hW13.one 8 rfl
      obtain ⟨z9, qq9⟩ := hW13.one 9 rfl
      obtain ⟨z10, qq10⟩ := hW13.one 10 rfl
      clear hW13
      replace qW13 := Lib.hid qW13
      refine region_still [] [(.free, 0), (.free, 1), (.free, 2), (.take, 3), (.free, 4), (.free, 5), (.free, 6), (.free, 7), (.take, 8), (.free, 9)] _ (by kernel_rfl) (by kernel_rfl) (by kernel_rfl) (by kernel_rfl) (by decide) rfl (fun _ _ _ _ _ h => h) ?_
      simp only [List.filterMap_cons, List.filterMap_nil, List.getElem?_toArray, List.getElem?_cons_zero, List.getElem?_cons_succ, Option.map_some]
      iterate 3
        first
          | (refine mv_free ?_ (Or.inl ⟨by rfl, ?_⟩) (rfl) ?_
             rotate_left 1
             · intro u
               go_simp
               try simp only [d1]
               try simp only [d2]
               try simp only [d3]
               try simp only [d4]
               try with_reducible rfl
             simp only [Act.put, List.setIfInBounds_toArray, List.set_cons_zero, List.set_cons_succ])
          | (refine mv_free _ (Or.inr ⟨by rfl, rfl⟩) (rfl) ?_
             simp only [Act.put, List.setIfInBounds_toArray, List.set_cons_zero, List.set_cons_succ])
      iterate 1
        first
          | (refine mv_take ?_ (Or.inl ⟨by rfl, ?_⟩) (rfl) ?_
             rotate_left 1
             · intro u hu
               (try dsimp only at hu)
               go_simp
               try with_reducible rfl
             simp only [Act.put, List.setIfInBounds_toArray, List.set_cons_zero, List.set_cons_succ])
          | (refine mv_take _ (Or.inr ⟨by rfl, rfl⟩) (rfl) ?_
             simp only [Act.put, List.setIfInBounds_toArray, List.set_cons_zero, List.set_cons_succ])
      iterate 4
        first
          | (refine mv_free ?_ (Or.inl ⟨by rfl, ?_⟩) (rfl) ?_
             rotate_left 1
             · intro u
               go_simp
               try simp only [d1]
               try simp only [d2]
               try simp only [d3]
               try simp only [d4]
               try with_reducible rfl
             simp only [Act.put, List.setIfInBounds_toArray, List.set_cons_zero, List.set_cons_succ])
          | (refine mv_free _ (Or.inr ⟨by rfl, rfl⟩) (rfl) ?_
             simp only [Act.put, List.setIfInBounds_toArray, List.set_cons_zero, List.set_cons_succ])
      iterate 1
        first
          | (refine mv_take ?_ (Or.inl ⟨by rfl, ?_⟩) (rfl) ?_
             rotate_left 1
             · intro u hu
               (try dsimp only at hu)
               go_simp
               try with_reducible rfl
             simp only [Act.put, List.setIfInBounds_toArray, List.set_cons_zero, List.set_cons_succ])
          | (refine mv_take _ (Or.inr ⟨by rfl, rfl⟩) (rfl) ?_
             simp only [Act.put, List.setIfInBounds_toArray, List.set_cons_zero, List.set_cons_succ])
      iterate 1
        first
          | (refine mv_free ?_ (Or.inl ⟨by rfl, ?_⟩) (rfl) ?_
             rotate_left 1
             · intro u
               go_simp
               try simp only [d1]
               try simp only [d2]
               try simp only [d3]
               try simp only [d4]
               try with_reducible rfl
             simp only [Act.put, List.setIfInBounds_toArray, List.set_cons_zero, List.set_cons_succ])
          | (refine mv_free _ (Or.inr ⟨by rfl, rfl⟩) (rfl) ?_
             simp only [Act.put, List.setIfInBounds_toArray, List.set_cons_zero, List.set_cons_succ])
      refine mv_done ?_
      go_upto_region 17 with (fail)
      obtain ⟨W17, eW17, qW17⟩ : ∃ W, W = W13.drew ∧ HB k [.slice a1 X.length e1, .slice a2 Y.length e2, .slice a3 Z.length e3, .slice a4 T.length e4, .int .i64 ma, .int .i64 mg, .int .i64 tk, .int .i64 (0), .int .i64 (0), .bool O, .bool Un] w2 W   := ⟨_, rfl, by exact HB.is ((qW13.out.as rfl rfl rfl rfl)) rfl⟩
      rw [← eW17]
      replace eW17 := Lib.hid eW17
      have hW17 := qW17.held
      clear z0 z1 z2 z3 z4 z5 z6 z7 z8 z9 z10 qq0 qq1 qq2 qq3 qq4 qq5 qq6 qq7 qq8 qq9 qq10
      obtain ⟨z0, qq0⟩ := hW17.one 0 rfl
      obtain ⟨z1, qq1⟩ := hW17.one 1 rfl
      obtain ⟨z2, qq2⟩ := hW17.one 2 rfl
      obtain ⟨z3, qq3⟩ := hW17.one 3 rfl
      obtain ⟨z4, qq4⟩ := hW17.one 4 rfl
      obtain ⟨z5, qq5⟩ := hW17.one 5 rfl
      obtain ⟨z6, qq6⟩ := hW17.one 6 rfl
      obtain ⟨z7, qq7⟩ := hW17.one 7 rfl
      obtain ⟨z8, qq8⟩ := hW17.one 8 rfl
      obtain ⟨z9, qq9⟩ := hW17.one 9 rfl
      obtain ⟨z10, qq10⟩ := hW17.one 10 rfl
      clear hW17
      replace qW17 := Lib.hid qW17
      have hx : L ≤ M := by omega
      all_goals cases O
      all_goals cases Un
      all_goals
        go_wp2
        go_ret
        have fin := qW17.out.fin rfl rfl rfl rfl
        have EO1 := EO.out
        have EU1 := EU.out
        rw [EO1.1, EO1.2, EU1.1, EU1.2]
        refine ⟨ret_int ?_, fin.1, B2.out.trans fin.2⟩
        first | (rw [decide_eq_true hx]; rfl) | (rw [decide_eq_false (show ¬ M < L by omega)]; rfl)
    · have ib1 : v < L := hd.1
      have ib2 : v - mg < L := by omega
      have ib3 : tk ≤ S + 1 := hd.2
      have EU : S' = S + 1 ∧ U' = true := by
              rw [hS'.out, hU'.out]
              unfold dU dS
              refine ⟨?_, ?_⟩
              · first | rw [if_pos (by omega)] | rw [if_neg (by omega)]
              · first | rw [if_pos (by omega)] | rw [if_neg (by omega), if_pos (by first | (rw [if_pos (by omega)]; omega) | (rw [if_neg (by omega)]; omega))] | rw [if_neg (by omega), if_neg (by first | (rw [if_pos (by omega)]; omega) | (rw [if_neg (by omega)]; omega))]
      replace EU := Lib.hid EU
      clear hd hS' hU'
      go_upto_region 13 with (fail)
      obtain ⟨W13, eW13, qW13⟩ : ∃ W, W = (W10.setCell ⟨k, 8, none⟩ (.int .i64 (S + 1))) ∧ HB k [.slice a1 X.length e1, .slice a2 Y.length e2, .slice a3 Z.length e3, .slice a4 T.length e4, .int .i64 ma, .int .i64 mg, .int .i64 tk, .int .i64 (0), .int .i64 (S + 1), .bool O, .bool Un] w2 W   := ⟨_, rfl, by exact HB.is ((qW10.out.set 8 (.int .i64 (S + 1)) (by simp))) rfl⟩
      rw [← eW13]
      replace eW13 := Lib.hid eW13
      have hW13 := qW13.held
      clear z0 z1 z2 z3 z4 z5 z6 z7 z8 z9 z10 qq0 qq1 qq2 qq3 qq4 qq5 qq6 qq7 qq8 qq9 qq10
      obtain ⟨z0, qq0⟩ := hW13.one 0 rfl
      obtain ⟨z1, qq1⟩ := hW13.one 1 rfl
      obtain ⟨z2, qq2⟩ := hW13.one 2 rfl
      obtain ⟨z3, qq3⟩ := hW13.one 3 rfl
      obtain ⟨z4, qq4⟩ := hW13.one 4 rfl
      obtain ⟨z5, qq5⟩ := hW13.one 5 rfl
      obtain ⟨z6, qq6⟩ := hW13.one 6 rfl
      obtain ⟨z7, qq7⟩ := hW13.one 7 rfl
      obtain ⟨z8, qq8⟩ := hW13.one 8 rfl
      obtain ⟨z9, qq9⟩ := hW13.one 9 rfl
      obtain ⟨z10, qq10⟩ := hW13.one 10 rfl
      clear hW13
      replace qW13 := Lib.hid qW13
      refine region_still [] [(.free, 0), (.free, 1), (.free, 2), (.take, 3), (.free, 4), (.free, 5), (.free, 6), (.free, 7), (.take, 8), (.free, 9)] _ (by kernel_rfl) (by kernel_rfl) (by kernel_rfl) (by kernel_rfl) (by decide) rfl (fun _ _ _ _ _ h => h) ?_
      simp only [List.filterMap_cons, List.filterMap_nil, List.getElem?_toArray, List.getElem?_cons_zero, List.getElem?_cons_succ, Option.map_some]
      iterate 3
        first
          | (refine mv_free ?_ (Or.inl ⟨by rfl, ?_⟩) (rfl) ?_
             rotate_left 1
             · intro u
               go_simp
               try simp only [d1]
               try simp only [d2]
               try simp only [d3]
               try simp only [d4]
               try with_reducible rfl
             simp only [Act.put, List.setIfInBounds_toArray, List.set_cons_zero, List.set_cons_succ])
          | (refine mv_free _ (Or.inr ⟨by rfl, rfl⟩) (rfl) ?_
             simp only [Act.put, List.setIfInBounds_toArray, List.set_cons_zero, List.set_cons_succ])
      iterate 1
        first
          | (refine mv_take ?_ (Or.inl ⟨by rfl, ?_⟩) (rfl) ?_
             rotate_left 1
             · intro u hu
               (try dsimp only at hu)
               go_simp
               try with_reducible rfl
             simp only [Act.put, List.setIfInBounds_toArray, List.set_cons_zero, List.set_cons_succ])
          | (refine mv_take _ (Or.inr ⟨by rfl, rfl⟩) (rfl) ?_
             simp only [Act.put, List.setIfInBounds_toArray, List.set_cons_zero, List.set_cons_succ])
      iterate 4
        first
          | (refine mv_free ?_ (Or.inl ⟨by rfl, ?_⟩) (rfl) ?_
             rotate_left 1
             · intro u
               go_simp
               try simp only [d1]
               try simp only [d2]
               try simp only [d3]
               try simp only [d4]
               try with_reducible rfl
             simp only [Act.put, List.setIfInBounds_toArray, List.set_cons_zero, List.set_cons_succ])
          | (refine mv_free _ (Or.inr ⟨by rfl, rfl⟩) (rfl) ?_
             simp only [Act.put, List.setIfInBounds_toArray, List.set_cons_zero, List.set_cons_succ])
      iterate 1
        first
          | (refine mv_take ?_ (Or.inl ⟨by rfl, ?_⟩) (rfl) ?_
             rotate_left 1
             · intro u hu
               (try dsimp only at hu)
               go_simp
               try with_reducible rfl
             simp only [Act.put, List.setIfInBounds_toArray, List.set_cons_zero, List.set_cons_succ])
          | (refine mv_take _ (Or.inr ⟨by rfl, rfl⟩) (rfl) ?_
             simp only [Act.put, List.setIfInBounds_toArray, List.set_cons_zero, List.set_cons_succ])
      iterate 1
        first
          | (refine mv_free ?_ (Or.inl ⟨by rfl, ?_⟩) (rfl) ?_
             rotate_left 1
             · intro u
               go_simp
               try simp only [d1]
               try simp only [d2]
               try simp only [d3]
               try simp only [d4]
               try with_reducible rfl
             simp only [Act.put, List.setIfInBounds_toArray, List.set_cons_zero, List.set_cons_succ])
          | (refine mv_free _ (Or.inr ⟨by rfl, rfl⟩) (rfl) ?_
             simp only [Act.put, List.setIfInBounds_toArray, List.set_cons_zero, List.set_cons_succ])
      refine mv_done ?_
      go_upto_region 17 with (fail)
      obtain ⟨W17, eW17, qW17⟩ : ∃ W, W = (W13.setCell ⟨k, 10, none⟩ (.bool true)).drew ∧ HB k [.slice a1 X.length e1, .slice a2 Y.length e2, .slice a3 Z.length e3, .slice a4 T.length e4, .int .i64 ma, .int .i64 mg, .int .i64 tk, .int .i64 (0), .int .i64 (S + 1), .bool O, .bool true] w2 W   := ⟨_, rfl, by exact HB.is (((qW13.out.set 10 (.bool true) (by simp)).as rfl rfl rfl rfl)) rfl⟩
      rw [← eW17]
      replace eW17 := Lib.hid eW17
      have hW17 := qW17.held
      clear z0 z1 z2 z3 z4 z5 z6 z7 z8 z9 z10 qq0 qq1 qq2 qq3 qq4 qq5 qq6 qq7 qq8 qq9 qq10
      obtain ⟨z0, qq0⟩ := hW17.one 0 rfl
      obtain ⟨z1, qq1⟩ := hW17.one 1 rfl
      obtain ⟨z2, qq2⟩ := hW17.one 2 rfl
      obtain ⟨z3, qq3⟩ := hW17.one 3 rfl
      obtain ⟨z4, qq4⟩ := hW17.one 4 rfl
      obtain ⟨z5, qq5⟩ := hW17.one 5 rfl
      obtain ⟨z6, qq6⟩ := hW17.one 6 rfl
      obtain ⟨z7, qq7⟩ := hW17.one 7 rfl
      obtain ⟨z8, qq8⟩ := hW17.one 8 rfl
      obtain ⟨z9, qq9⟩ := hW17.one 9 rfl
      obtain ⟨z10, qq10⟩ := hW17.one 10 rfl
      clear hW17
      replace qW17 := Lib.hid qW17
      rcases (show M < L ∨ L ≤ M by omega) with hx | hx
      all_goals cases O
      all_goals
        go_wp2
        go_ret
        have fin := qW17.out.fin rfl rfl rfl rfl
        have EO1 := EO.out
        have EU1 := EU.out
        rw [EO1.1, EO1.2, EU1.1, EU1.2]
        refine ⟨ret_int ?_, fin.1, B2.out.trans fin.2⟩
        first | (rw [decide_eq_true hx]; rfl) | (rw [decide_eq_false (show ¬ M < L by omega)]; rfl)
    · have ib1 : v < L := hd.1
      have ib2 : v - mg < L := by omega
      have ib3 : S + 1 < tk := hd.2
      have EU : S' = S + 1 ∧ U' = Un := by
              rw [hS'.out, hU'.out]
              unfold dU dS
              refine ⟨?_, ?_⟩
              · first | rw [if_pos (by omega)] | rw [if_neg (by omega)]
              · first | rw [if_pos (by omega)] | rw [if_neg (by omega), if_pos (by first | (rw [if_pos (by omega)]; omega) | (rw [if_neg (by omega)]; omega))] | rw [if_neg (by omega), if_neg (by first | (rw [if_pos (by omega)]; omega) | (rw [if_neg (by omega)]; omega))]
      replace EU := Lib.hid EU
      clear hd hS' hU'
      go_upto_region 13 with (fail)
      obtain ⟨W13, eW13, qW13⟩ : ∃ W, W = (W10.setCell ⟨k, 8, none⟩ (.int .i64 (S + 1))) ∧ HB k [.slice a1 X.length e1, .slice a2 Y.length e2, .slice a3 Z.length e3, .slice a4 T.length e4, .int .i64 ma, .int .i64 mg, .int .i64 tk, .int .i64 (0), .int .i64 (S + 1), .bool O, .bool Un] w2 W   := ⟨_, rfl, by exact HB.is ((qW10.out.set 8 (.int .i64 (S + 1)) (by simp))) rfl⟩
      rw [← eW13]
      replace eW13 := Lib.hid eW13
      have hW13 := qW13.held
      clear z0 z1 z2 z3 z4 z5 z6 z7 z8 z9 z10 qq0 qq1 qq2 qq3 qq4 qq5 qq6 qq7 qq8 qq9 qq10
      obtain ⟨z0, qq0⟩ := hW13.one 0 rfl
      obtain ⟨z1, qq1⟩ := hW13.one 1 rfl
      obtain ⟨z2, qq2⟩ := hW13.one 2 rfl
      obtain ⟨z3, qq3⟩ := hW13.one 3 rfl
      obtain ⟨z4, qq4⟩ := hW13.one 4 rfl
      obtain ⟨z5, qq5⟩ := hW13.one 5 rfl
      obtain ⟨z6, qq6⟩ := hW13.one 6 rfl
      obtain ⟨z7, qq7⟩ := hW13.one 7 rfl
      obtain ⟨z8, qq8⟩ := hW13.one 8 rfl
      obtain ⟨z9, qq9⟩ := hW13.one 9 rfl
      obtain ⟨z10, qq10⟩ := hW13.one 10 rfl
      clear hW13
      replace qW13 := Lib.hid qW13
      refine region_still [] [(.free, 0), (.free, 1), (.free, 2), (.take, 3), (.free, 4), (.free, 5), (.free, 6), (.free, 7), (.take, 8), (.free, 9)] _ (by kernel_rfl) (by kernel_rfl) (by kernel_rfl) (by kernel_rfl) (by decide) rfl (fun _ _ _ _ _ h => h) ?_
      simp only [List.filterMap_cons, List.filterMap_nil, List.getElem?_toArray, List.getElem?_cons_zero, List.getElem?_cons_succ, Option.map_some]
      iterate 3
        first
          | (refine mv_free ?_ (Or.inl ⟨by rfl, ?_⟩) (rfl) ?_
             rotate_left 1
             · intro u
               go_simp
               try simp only [d1]
               try simp only [d2]
               try simp only [d3]
               try simp only [d4]
               try with_reducible rfl
             simp only [Act.put, List.setIfInBounds_toArray, List.set_cons_zero, List.set_cons_succ])
          | (refine mv_free _ (Or.inr ⟨by rfl, rfl⟩) (rfl) ?_
             simp only [Act.put, List.setIfInBounds_toArray, List.set_cons_zero, List.set_cons_succ])
      iterate 1
        first
          | (refine mv_take ?_ (Or.inl ⟨by rfl, ?_⟩) (rfl) ?_
             rotate_left 1
             · intro u hu
               (try dsimp only at hu)
               go_simp
               try with_reducible rfl
             simp only [Act.put, List.setIfInBounds_toArray, List.set_cons_zero, List.set_cons_succ])
          | (refine mv_take _ (Or.inr ⟨by rfl, rfl⟩) (rfl) ?_
             simp only [Act.put, List.setIfInBounds_toArray, List.set_cons_zero, List.set_cons_succ])
      iterate 4
        first
          | (refine mv_free ?_ (Or.inl ⟨by rfl, ?_⟩) (rfl) ?_
             rotate_left 1
             · intro u
               go_simp
               try simp only [d1]
               try simp only [d2]
               try simp only [d3]
               try simp only [d4]
               try with_reducible rfl
             simp only [Act.put, List.setIfInBounds_toArray, List.set_cons_zero, List.set_cons_succ])
          | (refine mv_free _ (Or.inr ⟨by rfl, rfl⟩) (rfl) ?_
             simp only [Act.put, List.setIfInBounds_toArray, List.set_cons_zero, List.set_cons_succ])
      iterate 1
        first
          | (refine mv_take ?_ (Or.inl ⟨by rfl, ?_⟩) (rfl) ?_
             rotate_left 1
             · intro u hu
               (try dsimp only at hu)
               go_simp
               try with_reducible rfl
             simp only [Act.put, List.setIfInBounds_toArray, List.set_cons_zero, List.set_cons_succ])
          | (refine mv_take _ (Or.inr ⟨by rfl, rfl⟩) (rfl) ?_
             simp only [Act.put, List.setIfInBounds_toArray, List.set_cons_zero, List.set_cons_succ])
      iterate 1
        first
          | (refine mv_free ?_ (Or.inl ⟨by rfl, ?_⟩) (rfl) ?_
             rotate_left 1
             · intro u
               go_simp
               try simp only [d1]
               try simp only [d2]
               try simp only [d3]
               try simp only [d4]
               try with_reducible rfl
             simp only [Act.put, List.setIfInBounds_toArray, List.set_cons_zero, List.set_cons_succ])
          | (refine mv_free _ (Or.inr ⟨by rfl, rfl⟩) (rfl) ?_
             simp only [Act.put, List.setIfInBounds_toArray, List.set_cons_zero, List.set_cons_succ])
      refine mv_done ?_
      go_upto_region 17 with (fail)
      obtain ⟨W17, eW17, qW17⟩ : ∃ W, W = W13.drew ∧ HB k [.slice a1 X.length e1, .slice a2 Y.length e2, .slice a3 Z.length e3, .slice a4 T.length e4, .int .i64 ma, .int .i64 mg, .int .i64 tk, .int .i64 (0), .int .i64 (S + 1), .bool O, .bool Un] w2 W   := ⟨_, rfl, by exact HB.is ((qW13.out.as rfl rfl rfl rfl)) rfl⟩
      rw [← eW17]
      replace eW17 := Lib.hid eW17
      have hW17 := qW17.held
      clear z0 z1 z2 z3 z4 z5 z6 z7 z8 z9 z10 qq0 qq1 qq2 qq3 qq4 qq5 qq6 qq7 qq8 qq9 qq10
      obtain ⟨z0, qq0⟩ := hW17.one 0 rfl
      obtain ⟨z1, qq1⟩ := hW17.one 1 rfl
      obtain ⟨z2, qq2⟩ := hW17.one 2 rfl
      obtain ⟨z3, qq3⟩ := hW17.one 3 rfl
      obtain ⟨z4, qq4⟩ := hW17.one 4 rfl
      obtain ⟨z5, qq5⟩ := hW17.one 5 rfl
      obtain ⟨z6, qq6⟩ := hW17.one 6 rfl
      obtain ⟨z7, qq7⟩ := hW17.one 7 rfl
      obtain ⟨z8, qq8⟩ := hW17.one 8 rfl
      obtain ⟨z9, qq9⟩ := hW17.one 9 rfl
      obtain ⟨z10, qq10⟩ := hW17.one 10 rfl
      clear hW17
      replace qW17 := Lib.hid qW17
      rcases (show M < L ∨ L ≤ M by omega) with hx | hx
      all_goals cases O
      all_goals cases Un
      all_goals
        go_wp2
        go_ret
        have fin := qW17.out.fin rfl rfl rfl rfl
        have EO1 := EO.out
        have EU1 := EU.out
        rw [EO1.1, EO1.2, EU1.1, EU1.2]
        refine ⟨ret_int ?_, fin.1, B2.out.trans fin.2⟩
        first | (rw [decide_eq_true hx]; rfl) | (rw [decide_eq_false (show ¬ M < L by omega)]; rfl)
  · have ia1 : M < v := hc.1
    have ia2 : M < v + mg := by omega
    have ia3 : tk ≤ F + 1 := hc.2
    have EO : F' = F + 1 ∧ O' = true := by
          rw [hF'.out, hO'.out]
          unfold dO dF
          refine ⟨?_, ?_⟩
          · first | rw [if_pos (by omega)] | rw [if_neg (by omega)]
          · first | rw [if_pos (by omega)] | rw [if_neg (by omega), if_pos (by first | (rw [if_pos (by omega)]; omega) | (rw [if_neg (by omega)]; omega))] | rw [if_neg (by omega), if_neg (by first | (rw [if_pos (by omega)]; omega) | (rw [if_neg (by omega)]; omega))]
    replace EO := Lib.hid EO
    clear hc hF' hO'
    go_upto_region 6 with (fail)
    obtain ⟨W6, eW6, qW6⟩ : ∃ W, W = (w2.setCell ⟨k, 7, none⟩ (.int .i64 (F + 1))) ∧ HB k [.slice a1 X.length e1, .slice a2 Y.length e2, .slice a3 Z.length e3, .slice a4 T.length e4, .int .i64 ma, .int .i64 mg, .int .i64 tk, .int .i64 (F + 1), .int .i64 S, .bool O, .bool Un] w2 W   := ⟨_, rfl, by exact HB.is (((HB.start h2.out).set 7 (.int .i64 (F + 1)) (by simp))) rfl⟩
    rw [← eW6]
    replace eW6 := Lib.hid eW6
    have hW6 := qW6.held
    clear z0 z1 z2 z3 z4 z5 z6 z7 z8 z9 z10 qq0 qq1 qq2 qq3 qq4 qq5 qq6 qq7 qq8 qq9 qq10
    obtain ⟨z0, qq0⟩ := hW6.one 0 rfl
    obtain ⟨z1, qq1⟩ := hW6.one 1 rfl
    obtain ⟨z2, qq2⟩ := hW6.one 2 rfl
    obtain ⟨z3, qq3⟩ := hW6.one 3 rfl
    obtain ⟨z4, qq4⟩ := hW6.one 4 rfl
    obtain ⟨z5, qq5⟩ := hW6.one 5 rfl
    obtain ⟨z6, qq6⟩ := hW6.one 6 rfl
    obtain ⟨z7, qq7⟩ := hW6.one 7 rfl
    obtain ⟨z8, qq8⟩ := hW6.one 8 rfl
    obtain ⟨z9, qq9⟩ := hW6.one 9 rfl
    obtain ⟨z10, qq10⟩ := hW6.one 10 rfl
    clear hW6
    replace qW6 := Lib.hid qW6
    refine region_still [] [(.free, 0), (.free, 1), (.free, 2), (.take, 3), (.free, 4), (.free, 5), (.free, 6), (.free, 7), (.take, 8), (.free, 9)] _ (by kernel_rfl) (by kernel_rfl) (by kernel_rfl) (by kernel_rfl) (by decide) rfl (fun _ _ _ _ _ h => h) ?_
    simp only [List.filterMap_cons, List.filterMap_nil, List.getElem?_toArray, List.getElem?_cons_zero, List.getElem?_cons_succ, Option.map_some]
    iterate 3
      first
        | (refine mv_free ?_ (Or.inl ⟨by rfl, ?_⟩) (rfl) ?_
           rotate_left 1
           · intro u
             go_simp
             try simp only [d1]
             try simp only [d2]
             try simp only [d3]
             try simp only [d4]
             try with_reducible rfl
           simp only [Act.put, List.setIfInBounds_toArray, List.set_cons_zero, List.set_cons_succ])
        | (refine mv_free _ (Or.inr ⟨by rfl, rfl⟩) (rfl) ?_
           simp only [Act.put, List.setIfInBounds_toArray, List.set_cons_zero, List.set_cons_succ])
    iterate 1
      first
        | (refine mv_take ?_ (Or.inl ⟨by rfl, ?_⟩) (rfl) ?_
           rotate_left 1
           · intro u hu
             (try dsimp only at hu)
             go_simp
             try with_reducible rfl
           simp only [Act.put, List.setIfInBounds_toArray, List.set_cons_zero, List.set_cons_succ])
        | (refine mv_take _ (Or.inr ⟨by rfl, rfl⟩) (rfl) ?_
           simp only [Act.put, List.setIfInBounds_toArray, List.set_cons_zero, List.set_cons_succ])
    iterate 4
      first
        | (refine mv_free ?_ (Or.inl ⟨by rfl, ?_⟩) (rfl) ?_
           rotate_left 1
           · intro u
             go_simp
             try simp only [d1]
             try simp only [d2]
             try simp only [d3]
             try simp only [d4]
             try with_reducible rfl
           simp only [Act.put, List.setIfInBounds_toArray, List.set_cons_zero, List.set_cons_succ])
        | (refine mv_free _ (Or.inr ⟨by rfl, rfl⟩) (rfl) ?_
           simp only [Act.put, List.setIfInBounds_toArray, List.set_cons_zero, List.set_cons_succ])
    iterate 1
      first
        | (refine mv_take ?_ (Or.inl ⟨by rfl, ?_⟩) (rfl) ?_
           rotate_left 1
           · intro u hu
             (try dsimp only at hu)
             go_simp
             try with_reducible rfl
           simp only [Act.put, List.setIfInBounds_toArray, List.set_cons_zero, List.set_cons_succ])
        | (refine mv_take _ (Or.inr ⟨by rfl, rfl⟩) (rfl) ?_
           simp only [Act.put, List.setIfInBounds_toArray, List.set_cons_zero, List.set_cons_succ])
    iterate 1
      first
        | (refine mv_free ?_ (Or.inl ⟨by rfl, ?_⟩) (rfl) ?_
           rotate_left 1
           · intro u
             go_simp
             try simp only [d1]
             try simp only [d2]
             try simp only [d3]
             try simp only [d4]
             try with_reducible rfl
           simp only [Act.put, List.setIfInBounds_toArray, List.set_cons_zero, List.set_cons_succ])
        | (refine mv_free _ (Or.inr ⟨by rfl, rfl⟩) (rfl) ?_
           simp only [Act.put, List.setIfInBounds_toArray, List.set_cons_zero, List.set_cons_succ])
    refine mv_done ?_
    go_upto_region 10 with (fail)
    obtain ⟨W10, eW10, qW10⟩ : ∃ W, W = (W6.setCell ⟨k, 9, none⟩ (.bool true)).drew ∧ HB k [.slice a1 X.length e1, .slice a2 Y.length e2, .slice a3 Z.length e3, .slice a4 T.length e4, .int .i64 ma, .int .i64 mg, .int .i64 tk, .int .i64 (F + 1), .int .i64 S, .bool true, .bool Un] w2 W   := ⟨_, rfl, by exact HB.is (((qW6.out.set 9 (.bool true) (by simp)).as rfl rfl rfl rfl)) rfl⟩
    rw [← eW10]
    replace eW10 := Lib.hid eW10
    have hW10 := qW10.held
    clear z0 z1 z2 z3 z4 z5 z6 z7 z8 z9 z10 qq0 qq1 qq2 qq3 qq4 qq5 qq6 qq7 qq8 qq9 qq10
    obtain ⟨z0, qq0⟩ := hW10.one 0 rfl
    obtain ⟨z1, qq1⟩ := hW10.one 1 rfl
    obtain ⟨z2, qq2⟩ := hW10.one 2 rfl
    obtain ⟨z3, qq3⟩ := hW10.one 3 rfl
    obtain ⟨z4, qq4⟩ := hW10.one 4 rfl
    obtain ⟨z5, qq5⟩ := hW10.one 5 rfl
    obtain ⟨z6, qq6⟩ := hW10.one 6 rfl
    obtain ⟨z7, qq7⟩ := hW10.one 7 rfl
    obtain ⟨z8, qq8⟩ := hW10.one 8 rfl
    obtain ⟨z9, qq9⟩ := hW10.one 9 rfl
    obtain ⟨z10, qq10⟩ := hW10.one 10 rfl
    clear hW10
    replace qW10 := Lib.hid qW10
    rcases (show (L ≤ v ∧ L ≤ v - mg) ∨ (L ≤ v ∧ v - mg < L) ∨ (v < L ∧ tk ≤ S + 1) ∨ (v < L ∧ S + 1 < tk) by omega) with hd | hd | hd | hd
    · have ib1 : L ≤ v := hd.1
      have ib2 : L ≤ v - mg := hd.2
      have ib3 : (0 : Int) < tk := by omega
      have EU : S' = 0 ∧ U' = false := by
              rw [hS'.out, hU'.out]
              unfold dU dS
              refine ⟨?_, ?_⟩
              · first | rw [if_pos (by omega)] | rw [if_neg (by omega)]
              · first | rw [if_pos (by omega)] | rw [if_neg (by omega), if_pos (by first | (rw [if_pos (by omega)]; omega) | (rw [if_neg (by omega)]; omega))] | rw [if_neg (by omega), if_neg (by first | (rw [if_pos (by omega)]; omega) | (rw [if_neg (by omega)]; omega))]
      replace EU := Lib.hid EU
      clear hd hS' hU'
      go_upto_region 13 with (fail)
      obtain ⟨W13, eW13, qW13⟩ : ∃ W, W = ((W10.setCell ⟨k, 8, none⟩ (.int .i64 (S + 1))).setCell ⟨k, 8, none⟩ (.int .i64 0)) ∧ HB k [.slice a1 X.length e1, .slice a2 Y.length e2, .slice a3 Z.length e3, .slice a4 T.length e4, .int .i64 ma, .int .i64 mg, .int .i64 tk, .int .i64 (F + 1), .int .i64 (0), .bool true, .bool Un] w2 W   := ⟨_, rfl, by exact HB.is (((qW10.out.set 8 (.int .i64 (S + 1)) (by simp)).set 8 (.int .i64 0) (by simp))) rfl⟩
      rw [← eW13]
      replace eW13 := Lib.hid eW13
      have hW13 := qW13.held
      clear z0 z1 z2 z3 z4 z5 z6 z7 z8 z9 z10 qq0 qq1 qq2 qq3 qq4 qq5 qq6 qq7 qq8 qq9 qq10
      obtain ⟨z0, qq0⟩ := hW13.one 0 rfl
      obtain ⟨z1, qq1⟩ := hW13.one 1 rfl
      obtain ⟨z2, qq2⟩ := hW13.one 2 rfl
      obtain ⟨z3, qq3⟩ := hW13.one 3 rfl
      obtain ⟨z4, qq4⟩ := hW13.one 4 rfl
      obtain ⟨z5, qq5⟩ := hW13.one 5 rfl
      obtain ⟨z6, qq6⟩ := hW13.one 6 rfl
      obtain ⟨z7, qq7⟩ := hW13.one 7 rfl
      obtain ⟨z8, qq8⟩ := hW13.one 8 rfl
      obtain ⟨z9, qq9⟩ := hW13.one 9 rfl
      obtain ⟨z10, qq10⟩ := hW13.one 10 rfl
      clear hW13
      replace qW13 := Lib.hid qW13
      refine region_still [] [(.free, 0), (.free, 1), (.free, 2), (.take, 3), (.free, 4), (.free, 5), (.free, 6), (.free, 7), (.take, 8), (.free, 9)] _ (by kernel_rfl) (by kernel_rfl) (by kernel_rfl) (by kernel_rfl) (by decide) rfl (fun _ _ _ _ _ h => h) ?_
      simp only [List.filterMap_cons, List.filterMap_nil, List.getElem?_toArray, List.getElem?_cons_zero, List.getElem?_cons_succ, Option.map_some]
      iterate 3
        first
          | (refine mv_free ?_ (Or.inl ⟨by rfl, ?_⟩) (rfl) ?_
             rotate_left 1
             · intro u
               go_simp
               try simp only [d1]
               try simp only [d2]
               try simp only [d3]
               try simp only [d4]
               try with_reducible rfl
             simp only [Act.put, List.setIfInBounds_toArray, List.set_cons_zero, List.set_cons_succ])
          | (refine mv_free _ (Or.inr ⟨by rfl, rfl⟩) (rfl) ?_
             simp only [Act.put, List.setIfInBounds_toArray, List.set_cons_zero, List.set_cons_succ])
      iterate 1
        first
          | (refine mv_take ?_ (Or.inl ⟨by rfl, ?_⟩) (rfl) ?_
             rotate_left 1
             · intro u hu
               (try dsimp only at hu)
               go_simp
               try with_reducible rfl
             simp only [Act.put, List.setIfInBounds_toArray, List.set_cons_zero, List.set_cons_succ])
          | (refine mv_take _ (Or.inr ⟨by rfl, rfl⟩) (rfl) ?_
             simp only [Act.put, List.setIfInBounds_toArray, List.set_cons_zero, List.set_cons_succ])
      iterate 4
        first
          | (refine mv_free ?_ (Or.inl ⟨by rfl, ?_⟩) (rfl) ?_
             rotate_left 1
             · intro u
               go_simp
               try simp only [d1]
               try simp only [d2]
               try simp only [d3]
               try simp only [d4]
               try with_reducible rfl
             simp only [Act.put, List.setIfInBounds_toArray, List.set_cons_zero, List.set_cons_succ])
          | (refine mv_free _ (Or.inr ⟨by rfl, rfl⟩) (rfl) ?_
             simp only [Act.put, List.setIfInBounds_toArray, List.set_cons_zero, List.set_cons_succ])
      iterate 1
        first
          | (refine mv_take ?_ (Or.inl ⟨by rfl, ?_⟩) (rfl) ?_
             rotate_left 1
             · intro u hu
               (try dsimp only at hu)
               go_simp
               try with_reducible rfl
             simp only [Act.put, List.setIfInBounds_toArray, List.set_cons_zero, List.set_cons_succ])
          | (refine mv_take _ (Or.inr ⟨by rfl, rfl⟩) (rfl) ?_
             simp only [Act.put, List.setIfInBounds_toArray, List.set_cons_zero, List.set_cons_succ])
      iterate 1
        first
          | (refine mv_free ?_ (Or.inl ⟨by rfl, ?_⟩) (rfl) ?_
             rotate_left 1
             · intro u
               go_simp
               try simp only [d1]
               try simp only [d2]
               try simp only [d3]
               try simp only [d4]
               try with_reducible rfl
             simp only [Act.put, List.setIfInBounds_toArray, List.set_cons_zero, List.set_cons_succ])
          | (refine mv_free _ (Or.inr ⟨by rfl, rfl⟩) (rfl) ?_
             simp only [Act.put, List.setIfInBounds_toArray, List.set_cons_zero, List.set_cons_succ])
      refine mv_done ?_
      go_upto_region 17 with (fail)
      obtain ⟨W17, eW17, qW17⟩ : ∃ W, W = (W13.setCell ⟨k, 10, none⟩ (.bool false)).drew ∧ HB k [.slice a1 X.length e1, .slice a2 Y.length e2, .slice a3 Z.length e3, .slice a4 T.length e4, .int .i64 ma, .int .i64 mg, .int .i64 tk, .int .i64 (F + 1), .int .i64 (0), .bool true, .bool false] w2 W   := ⟨_, rfl, by exact HB.is (((qW13.out.set 10 (.bool false) (by simp)).as rfl rfl rfl rfl)) rfl⟩
      rw [← eW17]
      replace eW17 := Lib.hid eW17
      have hW17 := qW17.held
      clear z0 z1 z2 z3 z4 z5 z6 z7 z8 z9 z10 qq0 qq1 qq2 qq3 qq4 qq5 qq6 qq7 qq8 qq9 qq10
      obtain ⟨z0, qq0⟩ := hW17.one 0 rfl
      obtain ⟨z1, qq1⟩ := hW17.one 1 rfl
      obtain ⟨z2, qq2⟩ := hW17.one 2 rfl
      obtain ⟨z3, qq3⟩ := hW17.one 3 rfl
      obtain ⟨z4, qq4⟩ := hW17.one 4 rfl
      obtain ⟨z5, qq5⟩ := hW17.one 5 rfl
      obtain ⟨z6, qq6⟩ := hW17.one 6 rfl
      obtain ⟨z7, qq7⟩ := hW17.one 7 rfl
      obtain ⟨z8, qq8⟩ := hW17.one 8 rfl
      obtain ⟨z9, qq9⟩ := hW17.one 9 rfl
      obtain ⟨z10, qq10⟩ := hW17.one 10 rfl
      clear hW17
      replace qW17 := Lib.hid qW17
      rcases (show M < L ∨ L ≤ M by omega) with hx | hx
      all_goals
        go_wp2
        go_ret
        have fin := qW17.out.fin rfl rfl rfl rfl
        have EO1 := EO.out
        have EU1 := EU.out
        rw [EO1.1, EO1.2, EU1.1, EU1.2]
        refine ⟨ret_int ?_, fin.1, B2.out.trans fin.2⟩
        first | (rw [decide_eq_true hx]; rfl) | (rw [decide_eq_false (show ¬ M < L by omega)]; rfl)
    · have ib1 : L ≤ v := hd.1
      have ib2 : v - mg < L := hd.2
      have ib3 : (0 : Int) < tk := by omega
      have EU : S' = 0 ∧ U' = Un := by
              rw [hS'.out, hU'.out]
              unfold dU dS
              refine ⟨?_, ?_⟩
              · first | rw [if_pos (by omega)] | rw [if_neg (by omega)]
              · first | rw [if_pos (by omega)] | rw [if_neg (by omega), if_pos (by first | (rw [if_pos (by omega)]; omega) | (rw [if_neg (by omega)]; omega))] | rw [if_neg (by omega), if_neg (by first | (rw [if_pos (by omega)]; omega) | (rw [if_neg (by omega)]; omega))]
      replace EU := Lib.hid EU
      clear hd hS' hU'
      go_upto_region 13 with (fail)
      obtain ⟨W13, eW13, qW13⟩ : ∃ W, W = ((W10.setCell ⟨k, 8, none⟩ (.int .i64 (S + 1))).setCell ⟨k, 8, none⟩ (.int .i64 0)) ∧ HB k [.slice a1 X.length e1, .slice a2 Y.length e2, .slice a3 Z.length e3, .slice a4 T.length e4, .int .i64 ma, .int .i64 mg, .int .i64 tk, .int .i64 (F + 1), .int .i64 (0), .bool true, .bool Un] w2 W   := ⟨_, rfl, by exact HB.is (((qW10.out.set 8 (.int .i64 (S + 1)) (by simp)).set 8 (.int .i64 0) (by simp))) rfl⟩
      rw [← eW13]
      replace eW13 := Lib.hid eW13
      have hW13 := qW13.held
      clear z0 z1 z2 z3 z4 z5 z6 z7 z8 z9 z10 qq0 qq1 qq2 qq3 qq4 qq5 qq6 qq7 qq8 qq9 qq10
      obtain ⟨z0, qq0⟩ := hW13.one 0 rfl
      obtain ⟨z1, qq1⟩ := hW13.one 1 rfl
      obtain ⟨z2, qq2⟩ := hW13.one 2 rfl
      obtain ⟨z3, qq3⟩ := hW13.one 3 rfl
      obtain ⟨z4, qq4⟩ := hW13.one 4 rfl
      obtain ⟨z5, qq5⟩ := hW13.one 5 rfl
      obtain ⟨z6, qq6⟩ := hW13.one 6 rfl
      obtain ⟨z7, qq7⟩ := hW13.one 7 rfl
      obtain ⟨z8, qq8⟩ := hW13.one 8 rfl
      obtain ⟨z9, qq9⟩ := hW13.one 9 rfl
      obtain ⟨z10, qq10⟩ := hW13.one 10 rfl
      clear hW13
      replace qW13 := Lib.hid qW13
      refine region_still [] [(.free, 0), (.free, 1), (.free, 2), (.take, 3), (.free, 4), (.free, 5), (.free, 6), (.free, 7), (.take, 8), (.free, 9)] _ (by kernel_rfl) (by kernel_rfl) (by kernel_rfl) (by kernel_rfl) (by decide) rfl (fun _ _ _ _ _ h => h) ?_
      simp only [List.filterMap_cons, List.filterMap_nil, List.getElem?_toArray, List.getElem?_cons_zero, List.getElem?_cons_succ, Option.map_some]
      iterate 3
        first
          | (refine mv_free ?_ (Or.inl ⟨by rfl, ?_⟩) (rfl) ?_
             rotate_left 1
             · intro u
               go_simp
               try simp only [d1]
               try simp only [d2]
               try simp only [d3]
               try simp only [d4]
               try with_reducible rfl
             simp only [Act.put, List.setIfInBounds_toArray, List.set_cons_zero, List.set_cons_succ])
          | (refine mv_free _ (Or.inr ⟨by rfl, rfl⟩) (rfl) ?_
             simp only [Act.put, List.setIfInBounds_toArray, List.set_cons_zero, List.set_cons_succ])
      iterate 1
        first
          | (refine mv_take ?_ (Or.inl ⟨by rfl, ?_⟩) (rfl) ?_
             rotate_left 1
             · intro u hu
               (try dsimp only at hu)
               go_simp
               try with_reducible rfl
             simp only [Act.put, List.setIfInBounds_toArray, List.set_cons_zero, List.set_cons_succ])
          | (refine mv_take _ (Or.inr ⟨by rfl, rfl⟩) (rfl) ?_
             simp only [Act.put, List.setIfInBounds_toArray, List.set_cons_zero, List.set_cons_succ])
      iterate 4
        first
          | (refine mv_free ?_ (Or.inl ⟨by rfl, ?_⟩) (rfl) ?_
             rotate_left 1
             · intro u
               go_simp
               try simp only [d1]
               try simp only [d2]
               try simp only [d3]
               try simp only [d4]
               try with_reducible rfl
             simp only [Act.put, List.setIfInBounds_toArray, List.set_cons_zero, List.set_cons_succ])
          | (refine mv_free _ (Or.inr ⟨by rfl, rfl⟩) (rfl) ?_
             simp only [Act.put, List.setIfInBounds_toArray, List.set_cons_zero, List.set_cons_succ])
      iterate 1
        first
          | (refine mv_take ?_ (Or.inl ⟨by rfl, ?_⟩) (rfl) ?_
             rotate_left 1
             · intro u hu
               (try dsimp only at hu)
               go_simp
               try with_reducible rfl
             simp only [Act.put, List.setIfInBounds_toArray, List.set_cons_zero, List.set_cons_succ])
          | (refine mv_take _ (Or.inr ⟨by rfl, rfl⟩) (rfl) ?_
             simp only [Act.put, List.setIfInBounds_toArray, List.set_cons_zero, List.set_cons_succ])
      iterate 1
        first
          | (refine mv_free ?_ (Or.inl ⟨by rfl, ?_⟩) (rfl) ?_
             rotate_left 1
             · intro u
               go_simp
               try simp only [d1]
               try simp only [d2]
               try simp only [d3]
               try simp only [d4]
               try with_reducible rfl
             simp only [Act.put, List.setIfInBounds_toArray, List.set_cons_zero, List.set_cons_succ])
          | (refine mv_free _ (Or.inr ⟨by rfl, rfl⟩) (rfl) ?_
             simp only [Act.put, List.setIfInBounds_toArray, List.set_cons_zero, List.set_cons_succ])
      refine mv_done ?_
      go_upto_region 17 with (fail)
      obtain ⟨W17, eW17, qW17⟩ : ∃ W, W = W13.drew ∧ HB k [.slice a1 X.length e1, .slice a2 Y.length e2, .slice a3 Z.length e3, .slice a4 T.length e4, .int .i64 ma, .int .i64 mg, .int .i64 tk, .int .i64 (F + 1), .int .i64 (0), .bool true, .bool Un] w2 W   := ⟨_, rfl, by exact HB.is ((qW13.out.as rfl rfl rfl rfl)) rfl⟩
      rw [← eW17]
      replace eW17 := Lib.hid eW17
      have hW17 := qW17.held
      clear z0 z1 z2 z3 z4 z5 z6 z7 z8 z9 z10 qq0 qq1 qq2 qq3 qq4 qq5 qq6 qq7 qq8 qq9 qq10
      obtain ⟨z0, qq0⟩ := hW17.one 0 rfl
      obtain ⟨z1, qq1⟩ := hW17.one 1 rfl
      obtain ⟨z2, qq2⟩ := hW17.one 2 rfl
      obtain ⟨z3, qq3⟩ := hW17.one 3 rfl
      obtain ⟨z4, qq4⟩ := hW17.one 4 rfl
      obtain ⟨z5, qq5⟩ := hW17.one 5 rfl
      obtain ⟨z6, qq6⟩ := hW17.one 6 rfl
      obtain ⟨z7, qq7⟩ := hW17.one 7 rfl
      obtain ⟨z8, qq8⟩ := hW17.one 8 rfl
      obtain ⟨z9, qq9⟩ := hW17.one 9 rfl
      obtain ⟨z10, qq10⟩ := hW17.one 10 rfl
      clear hW17
      replace qW17 := Lib.hid qW17
      rcases (show M < L ∨ L ≤ M by omega) with hx | hx
      all_goals cases Un
      all_goals
        go_wp2
        go_ret
        have fin := qW17.out.fin rfl rfl rfl rfl
        have EO1 := EO.out
        have EU1 := EU.out
        rw [EO1.1, EO1.2, EU1.1, EU1.2]
        refine ⟨ret_int ?_, fin.1, B2.out.trans fin.2⟩
        first | (rw [decide_eq_true hx]; rfl) | (rw [decide_eq_false (show ¬ M < L by omega)]; rfl)
    · have ib1 : v < L := hd.1
      have ib2 : v - mg < L := by omega
      have ib3 : tk ≤ S + 1 := hd.2
      have EU : S' = S + 1 ∧ U' = true := by
              rw [hS'.out, hU'.out]
              unfold dU dS
              refine ⟨?_, ?_⟩
              · first | rw [if_pos (by omega)] | rw [if_neg (by omega)]
              · first | rw [if_pos (by omega)] | rw [if_neg (by omega), if_pos (by first | (rw [if_pos (by omega)]; omega) | (rw [if_neg (by omega)]; omega))] | rw [if_neg (by omega), if_neg (by first | (rw [if_pos (by omega)]; omega) | (rw [if_neg (by omega)]; omega))]
      replace EU := Lib.hid EU
      clear hd hS' hU'
      go_upto_region 13 with (fail)
      obtain ⟨W13, eW13, qW13⟩ : ∃ W, W = (W10.setCell ⟨k, 8, none⟩ (.int .i64 (S + 1))) ∧ HB k [.slice a1 X.length e1, .slice a2 Y.length e2, .slice a3 Z.length e3, .slice a4 T.length e4, .int .i64 ma, .int .i64 mg, .int .i64 tk, .int .i64 (F + 1), .int .i64 (S + 1), .bool true, .bool Un] w2 W   := ⟨_, rfl, by exact HB.is ((qW10.out.set 8 (.int .i64 (S + 1)) (by simp))) rfl⟩
      rw [← eW13]
      replace eW13 := Lib.hid eW13
      have hW13 := qW13.held
      clear z0 z1 z2 z3 z4 z5 z6 z7 z8 z9 z10 qq0 qq1 qq2 qq3 qq4 qq5 qq6 qq7 qq8 qq9 qq10
      obtain ⟨z0, qq0⟩ := hW13.one 0 rfl
      obtain ⟨z1, qq1⟩ := hW13.one 1 rfl
      obtain ⟨z2, qq2⟩ := hW13.one 2 rfl
      obtain ⟨z3, qq3⟩ := hW13.one 3 rfl
      obtain ⟨z4, qq4⟩ := hW13.one 4 rfl
      obtain ⟨z5, qq5⟩ := hW13.one 5 rfl
      obtain ⟨z6, qq6⟩ := hW13.one 6 rfl
      obtain ⟨z7, qq7⟩ := hW13.one 7 rfl
      obtain ⟨z8, qq8⟩ := hW13.one 8 rfl
      obtain ⟨z9, qq9⟩ := hW13.one 9 rfl
      obtain ⟨z10, qq10⟩ := hW13.one 10 rfl
      clear hW13
      replace qW13 := Lib.hid qW13
      refine region_still [] [(.free, 0), (.free, 1), (.free, 2), (.take, 3), (.free, 4), (.free, 5), (.free, 6), (.free, 7), (.take, 8), (.free, 9)] _ (by kernel_rfl) (by kernel_rfl) (by kernel_rfl) (by kernel_rfl) (by decide) rfl (fun _ _ _ _ _ h => h) ?_
      simp only [List.filterMap_cons, List.filterMap_nil, List.getElem?_toArray, List.getElem?_cons_zero, List.getElem?_cons_succ, Option.map_some]
      iterate 3
        first
          | (refine mv_free ?_ (Or.inl ⟨by rfl, ?_⟩) (rfl) ?_
             rotate_left 1
             · intro u
               go_simp
               try simp only [d1]
               try simp only [d2]
               try simp only [d3]
               try simp only [d4]
               try with_reducible rfl
             simp only [Act.put, List.setIfInBounds_toArray, List.set_cons_zero, List.set_cons_succ])
          | (refine mv_free _ (Or.inr ⟨by rfl, rfl⟩) (rfl) ?_
             simp only [Act.put, List.setIfInBounds_toArray, List.set_cons_zero, List.set_cons_succ])
      iterate 1
        first
          | (refine mv_take ?_ (Or.inl ⟨by rfl, ?_⟩) (rfl) ?_
             rotate_left 1
             · intro u hu
               (try dsimp only at hu)
               go_simp
               try with_reducible rfl
             simp only [Act.put, List.setIfInBounds_toArray, List.set_cons_zero, List.set_cons_succ])
          | (refine mv_take _ (Or.inr ⟨by rfl, rfl⟩) (rfl) ?_
             simp only [Act.put, List.setIfInBounds_toArray, List.set_cons_zero, List.set_cons_succ])
      iterate 4
        first
          | (refine mv_free ?_ (Or.inl ⟨by rfl, ?_⟩) (rfl) ?_
             rotate_left 1
             · intro u
               go_simp
               try simp only [d1]
               try simp only [d2]
               try simp only [d3]
               try simp only [d4]
               try with_reducible rfl
             simp only [Act.put, List.setIfInBounds_toArray, List.set_cons_zero, List.set_cons_succ])
          | (refine mv_free _ (Or.inr ⟨by rfl, rfl⟩) (rfl) ?_
             simp only [Act.put, List.setIfInBounds_toArray, List.set_cons_zero, List.set_cons_succ])
      iterate 1
        first
          | (refine mv_take ?_ (Or.inl ⟨by rfl, ?_⟩) (rfl) ?_
             rotate_left 1
             · intro u hu
               (try dsimp only at hu)
               go_simp
               try with_reducible rfl
             simp only [Act.put, List.setIfInBounds_toArray, List.set_cons_zero, List.set_cons_succ])
          | (refine mv_take _ (Or.inr ⟨by rfl, rfl⟩) (rfl) ?_
             simp only [Act.put, List.setIfInBounds_toArray, List.set_cons_zero, List.set_cons_succ])
      iterate 1
        first
          | (refine mv_free ?_ (Or.inl ⟨by rfl, ?_⟩) (rfl) ?_
             rotate_left 1
             · intro u
               go_simp
               try simp only [d1]
               try simp only [d2]
               try simp only [d3]
               try simp only [d4]
               try with_reducible rfl
             simp only [Act.put, List.setIfInBounds_toArray, List.set_cons_zero, List.set_cons_succ])
          | (refine mv_free _ (Or.inr ⟨by rfl, rfl⟩) (rfl) ?_
             simp only [Act.put, List.setIfInBounds_toArray, List.set_cons_zero, List.set_cons_succ])
      refine mv_done ?_
      go_upto_region 17 with (fail)
      obtain ⟨W17, eW17, qW17⟩ : ∃ W, W = (W13.setCell ⟨k, 10, none⟩ (.bool true)).drew ∧ HB k [.slice a1 X.length e1, .slice a2 Y.length e2, .slice a3 Z.length e3, .slice a4 T.length e4, .int .i64 ma, .int .i64 mg, .int .i64 tk, .int .i64 (F + 1), .int .i64 (S + 1), .bool true, .bool true] w2 W   := ⟨_, rfl, by exact HB.is (((qW13.out.set 10 (.bool true) (by simp)).as rfl rfl rfl rfl)) rfl⟩
      rw [← eW17]
      replace eW17 := Lib.hid eW17
      have hW17 := qW17.held
      clear z0 z1 z2 z3 z4 z5 z6 z7 z8 z9 z10 qq0 qq1 qq2 qq3 qq4 qq5 qq6 qq7 qq8 qq9 qq10
      obtain ⟨z0, qq0⟩ := hW17.one 0 rfl
      obtain ⟨z1, qq1⟩ := hW17.one 1 rfl
      obtain ⟨z2, qq2⟩ := hW17.one 2 rfl
      obtain ⟨z3, qq3⟩ := hW17.one 3 rfl
      obtain ⟨z4, qq4⟩ := hW17.one 4 rfl
      obtain ⟨z5, qq5⟩ := hW17.one 5 rfl
      obtain ⟨z6, qq6⟩ := hW17.one 6 rfl
      obtain ⟨z7, qq7⟩ := hW17.one 7 rfl
      obtain ⟨z8, qq8⟩ := hW17.one 8 rfl
      obtain ⟨z9, qq9⟩ := hW17.one 9 rfl
      obtain ⟨z10, qq10⟩ := hW17.one 10 rfl
      clear hW17
      replace qW17 := Lib.hid qW17
      have hx : M < L := by omega
      all_goals
        go_wp2
        go_ret
        have fin := qW17.out.fin rfl rfl rfl rfl
        have EO1 := EO.out
        have EU1 := EU.out
        rw [EO1.1, EO1.2, EU1.1, EU1.2]
        refine ⟨ret_int ?_, fin.1, B2.out.trans fin.2⟩
        first | (rw [decide_eq_true hx]; rfl) | (rw [decide_eq_false (show ¬ M < L by omega)]; rfl)
    · have ib1 : v < L := hd.1
      have ib2 : v - mg < L := by omega
      have ib3 : S + 1 < tk := hd.2
      have EU : S' = S + 1 ∧ U' = Un := by
              rw [hS'.out, hU'.out]
              unfold dU dS
              refine ⟨?_, ?_⟩
              · first | rw [if_pos (by omega)] | rw [if_neg (by omega)]
              · first | rw [if_pos (by omega)] | rw [if_neg (by omega), if_pos (by first | (rw [if_pos (by omega)]; omega) | (rw [if_neg (by omega)]; omega))] | rw [if_neg (by omega), if_neg (by first | (rw [if_pos (by omega)]; omega) | (rw [if_neg (by omega)]; omega))]
      replace EU := Lib.hid EU
      clear hd hS' hU'
      go_upto_region 13 with (fail)
      obtain ⟨W13, eW13, qW13⟩ : ∃ W, W = (W10.setCell ⟨k, 8, none⟩ (.int .i64 (S + 1))) ∧ HB k [.slice a1 X.length e1, .slice a2 Y.length e2, .slice a3 Z.length e3, .slice a4 T.length e4, .int .i64 ma, .int .i64 mg, .int .i64 tk, .int .i64 (F + 1), .int .i64 (S + 1), .bool true, .bool Un] w2 W   := ⟨_, rfl, by exact HB.is ((qW10.out.set 8 (.int .i64 (S + 1)) (by simp))) rfl⟩
      rw [← eW13]
      replace eW13 := Lib.hid eW13
      have hW13 := qW13.held
      clear z0 z1 z2 z3 z4 z5 z6 z7 z8 z9 z10 qq0 qq1 qq2 qq3 qq4 qq5 qq6 qq7 qq8 qq9 qq10
      obtain ⟨z0, qq0⟩ := hW13.one 0 rfl
      obtain ⟨z1, qq1⟩ := hW13.one 1 rfl
      obtain ⟨z2, qq2⟩ := hW13.one 2 rfl
      obtain ⟨z3, qq3⟩ := hW13.one 3 rfl
      obtain ⟨z4, qq4⟩ := hW13.one 4 rfl
      obtain ⟨z5, qq5⟩ := hW13.one 5 rfl
      obtain ⟨z6, qq6⟩ := hW13.one 6 rfl
      obtain ⟨z7, qq7⟩ := hW13.one 7 rfl
      obtain ⟨z8, qq8⟩ := hW13.one 8 rfl
      obtain ⟨z9, qq9⟩ := hW13.one 9 rfl
      obtain ⟨z10, qq10⟩ := hW13.one 10 rfl
      clear hW13
      replace qW13 := Lib.hid qW13
      refine region_still [] [(.free, 0), (.free, 1), (.free, 2), (.take, 3), (.free, 4), (.free, 5), (.free, 6), (.free, 7), (.take, 8), (.free, 9)] _ (by kernel_rfl) (by kernel_rfl) (by kernel_rfl) (by kernel_rfl) (by decide) rfl (fun _ _ _ _ _ h => h) ?_
      simp only [List.filterMap_cons, List.filterMap_nil, List.getElem?_toArray, List.getElem?_cons_zero, List.getElem?_cons_succ, Option.map_some]
      iterate 3
        first
          | (refine mv_free ?_ (Or.inl ⟨by rfl, ?_⟩) (rfl) ?_
             rotate_left 1
             · intro u
               go_simp
               try simp only [d1]
               try simp only [d2]
               try simp only [d3]
               try simp only [d4]
               try with_reducible rfl
             simp only [Act.put, List.setIfInBounds_toArray, List.set_cons_zero, List.set_cons_succ])
          | (refine mv_free _ (Or.inr ⟨by rfl, rfl⟩) (rfl) ?_
             simp only [Act.put, List.setIfInBounds_toArray, List.set_cons_zero, List.set_cons_succ])
      iterate 1
        first
          | (refine mv_take ?_ (Or.inl ⟨by rfl, ?_⟩) (rfl) ?_
             rotate_left 1
             · intro u hu
               (try dsimp only at hu)
               go_simp
               try with_reducible rfl
             simp only [Act.put, List.setIfInBounds_toArray, List.set_cons_zero, List.set_cons_succ])
          | (refine mv_take _ (Or.inr ⟨by rfl, rfl⟩) (rfl) ?_
             simp only [Act.put, List.setIfInBounds_toArray, List.set_cons_zero, List.set_cons_succ])
      iterate 4
        first
          | (refine mv_free ?_ (Or.inl ⟨by rfl, ?_⟩) (rfl) ?_
             rotate_left 1
             · intro u
               go_simp
               try simp only [d1]
               try simp only [d2]
               try simp only [d3]
               try simp only [d4]
               try with_reducible rfl
             simp only [Act.put, List.setIfInBounds_toArray, List.set_cons_zero, List.set_cons_succ])
          | (refine mv_free _ (Or.inr ⟨by rfl, rfl⟩) (rfl) ?_
             simp only [Act.put, List.setIfInBounds_toArray, List.set_cons_zero, List.set_cons_succ])
      iterate 1
        first
          | (refine mv_take ?_ (Or.inl ⟨by rfl, ?_⟩) (rfl) ?_
             rotate_left 1
             · intro u hu
               (try dsimp only at hu)
               go_simp
               try with_reducible rfl
             simp only [Act.put, List.setIfInBounds_toArray, List.set_cons_zero, List.set_cons_succ])
          | (refine mv_take _ (Or.inr ⟨by rfl, rfl⟩) (rfl) ?_
             simp only [Act.put, List.setIfInBounds_toArray, List.set_cons_zero, List.set_cons_succ])
      iterate 1
        first
          | (refine mv_free ?_ (Or.inl ⟨by rfl, ?_⟩) (rfl) ?_
             rotate_left 1
             · intro u
               go_simp
               try simp only [d1]
               try simp only [d2]
               try simp only [d3]
               try simp only [d4]
               try with_reducible rfl
             simp only [Act.put, List.setIfInBounds_toArray, List.set_cons_zero, List.set_cons_succ])
          | (refine mv_free _ (Or.inr ⟨by rfl, rfl⟩) (rfl) ?_
             simp only [Act.put, List.setIfInBounds_toArray, List.set_cons_zero, List.set_cons_succ])
      refine mv_done ?_
      go_upto_region 17 with (fail)
      obtain ⟨W17, eW17, qW17⟩ : ∃ W, W = W13.drew ∧ HB k [.slice a1 X.length e1, .slice a2 Y.length e2, .slice a3 Z.length e3, .slice a4 T.length e4, .int .i64 ma, .int .i64 mg, .int .i64 tk, .int .i64 (F + 1), .int .i64 (S + 1), .bool true, .bool Un] w2 W   := ⟨_, rfl, by exact HB.is ((qW13.out.as rfl rfl rfl rfl)) rfl⟩
      rw [← eW17]
      replace eW17 := Lib.hid eW17
      have hW17 := qW17.held
      clear z0 z1 z2 z3 z4 z5 z6 z7 z8 z9 z10 qq0 qq1 qq2 qq3 qq4 qq5 qq6 qq7 qq8 qq9 qq10
      obtain ⟨z0, qq0⟩ := hW17.one 0 rfl
      obtain ⟨z1, qq1⟩ := hW17.one 1 rfl
      obtain ⟨z2, qq2⟩ := hW17.one 2 rfl
      obtain ⟨z3, qq3⟩ := hW17.one 3 rfl
      obtain ⟨z4, qq4⟩ := hW17.one 4 rfl
      obtain ⟨z5, qq5⟩ := hW17.one 5 rfl
      obtain ⟨z6, qq6⟩ := hW17.one 6 rfl
      obtain ⟨z7, qq7⟩ := hW17.one 7 rfl
      obtain ⟨z8, qq8⟩ := hW17.one 8 rfl
      obtain ⟨z9, qq9⟩ := hW17.one 9 rfl
      obtain ⟨z10, qq10⟩ := hW17.one 10 rfl
      clear hW17
      replace qW17 := Lib.hid qW17
      have hx : M < L := by omega
      all_goals cases Un
      all_goals
        go_wp2
        go_ret
        have fin := qW17.out.fin rfl rfl rfl rfl
        have EO1 := EO.out
        have EU1 := EU.out
        rw [EO1.1, EO1.2, EU1.1, EU1.2]
        refine ⟨ret_int ?_, fin.1, B2.out.trans fin.2⟩
        first | (rw [decide_eq_true hx]; rfl) | (rw [decide_eq_false (show ¬ M < L by omega)]; rfl)
  · have ia1 : M < v := hc.1
    have ia2 : M < v + mg := by omega
    have ia3 : F + 1 < tk := hc.2
    have EO : F' = F + 1 ∧ O' = O := by
          rw [hF'.out, hO'.out]
          unfold dO dF
          refine ⟨?_, ?_⟩
          · first | rw [if_pos (by omega)] | rw [if_neg (by omega)]
          · first | rw [if_pos (by omega)] | rw [if_neg (by omega), if_pos (by first | (rw [if_pos (by omega)]; omega) | (rw [if_neg (by omega)]; omega))] | rw [if_neg (by omega), if_neg (by first | (rw [if_pos (by omega)]; omega) | (rw [if_neg (by omega)]; omega))]
    replace EO := Lib.hid EO
    clear hc hF' hO'
    go_upto_region 6 with (fail)
    obtain ⟨W6, eW6, qW6⟩ : ∃ W, W = (w2.setCell ⟨k, 7, none⟩ (.int .i64 (F + 1))) ∧ HB k [.slice a1 X.length e1, .slice a2 Y.length e2, .slice a3 Z.length e3, .slice a4 T.length e4, .int .i64 ma, .int .i64 mg, .int .i64 tk, .int .i64 (F + 1), .int .i64 S, .bool O, .bool Un] w2 W   := ⟨_, rfl, by exact HB.is (((HB.start h2.out).set 7 (.int .i64 (F + 1)) (by simp))) rfl⟩
    rw [← eW6]
    replace eW6 := Lib.hid eW6
    have hW6 := qW6.held
    clear z0 z1 z2 z3 z4 z5 z6 z7 z8 z9 z10 qq0 qq1 qq2 qq3 qq4 qq5 qq6 qq7 qq8 qq9 qq10
    obtain ⟨z0, qq0⟩ := hW6.one 0 rfl
    obtain ⟨z1, qq1⟩ := hW6.one 1 rfl
    obtain ⟨z2, qq2⟩ := hW6.one 2 rfl
    obtain ⟨z3, qq3⟩ := hW6.one 3 rfl
    obtain ⟨z4, qq4⟩ := hW6.one 4 rfl
    obtain ⟨z5, qq5⟩ := hW6.one 5 rfl
    obtain ⟨z6, qq6⟩ := hW6.one 6 rfl
    obtain ⟨z7, qq7⟩ := hW6.one 7 rfl
    obtain ⟨z8, qq8⟩ := hW6.one 8 rfl
    obtain ⟨z9, qq9⟩ := hW6.one 9 rfl
    obtain ⟨z10, qq10⟩ := hW6.one 10 rfl
    clear hW6
    replace qW6 := Lib.hid qW6
    refine region_still [] [(.free, 0), (.free, 1), (.free, 2), (.take, 3), (.free, 4), (.free, 5), (.free, 6), (.free, 7), (.take, 8), (.free, 9)] _ (by kernel_rfl) (by kernel_rfl) (by kernel_rfl) (by kernel_rfl) (by decide) rfl (fun _ _ _ _ _ h => h) ?_
    simp only [List.filterMap_cons, List.filterMap_nil, List.getElem?_toArray, List.getElem?_cons_zero, List.getElem?_cons_succ, Option.map_some]
    iterate 3
      first
        | (refine mv_free ?_ (Or.inl ⟨by rfl, ?_⟩) (rfl) ?_
           rotate_left 1
           · intro u
             go_simp
             try simp only [d1]
             try simp only [d2]
             try simp only [d3]
             try simp only [d4]
             try with_reducible rfl
           simp only [Act.put, List.setIfInBounds_toArray, List.set_cons_zero, List.set_cons_succ])
        | (refine mv_free _ (Or.inr ⟨by rfl, rfl⟩) (rfl) ?_
           simp only [Act.put, List.setIfInBounds_toArray, List.set_cons_zero, List.set_cons_succ])
    iterate 1
      first
        | (refine mv_take ?_ (Or.inl ⟨by rfl, ?_⟩) (rfl) ?_
           rotate_left 1
           · intro u hu
             (try dsimp only at hu)
             go_simp
             try with_reducible rfl
           simp only [Act.put, List.setIfInBounds_toArray, List.set_cons_zero, List.set_cons_succ])
        | (refine mv_take _ (Or.inr ⟨by rfl, rfl⟩) (rfl) ?_
           simp only [Act.put, List.setIfInBounds_toArray, List.set_cons_zero, List.set_cons_succ])
    iterate 4
      first
        | (refine mv_free ?_ (Or.inl ⟨by rfl, ?_⟩) (rfl) ?_
           rotate_left 1
           · intro u
             go_simp
             try simp only [d1]
             try simp only [d2]
             try simp only [d3]
             try simp only [d4]
             try with_reducible rfl
           simp only [Act.put, List.setIfInBounds_toArray, List.set_cons_zero, List.set_cons_succ])
        | (refine mv_free _ (Or.inr ⟨by rfl, rfl⟩) (rfl) ?_
           simp only [Act.put, List.setIfInBounds_toArray, List.set_cons_zero, List.set_cons_succ])
    iterate 1
      first
        | (refine mv_take ?_ (Or.inl ⟨by rfl, ?_⟩) (rfl) ?_
           rotate_left 1
           · intro u hu
             (try dsimp only at hu)
             go_simp
             try with_reducible rfl
           simp only [Act.put, List.setIfInBounds_toArray, List.set_cons_zero, List.set_cons_succ])
        | (refine mv_take _ (Or.inr ⟨by rfl, rfl⟩) (rfl) ?_
           simp only [Act.put, List.setIfInBounds_toArray, List.set_cons_zero, List.set_cons_succ])
    iterate 1
      first
        | (refine mv_free ?_ (Or.inl ⟨by rfl, ?_⟩) (rfl) ?_
           rotate_left 1
           · intro u
             go_simp
             try simp only [d1]
             try simp only [d2]
             try simp only [d3]
             try simp only [d4]
             try with_reducible rfl
           simp only [Act.put, List.setIfInBounds_toArray, List.set_cons_zero, List.set_cons_succ])
        | (refine mv_free _ (Or.inr ⟨by rfl, rfl⟩) (rfl) ?_
           simp only [Act.put, List.setIfInBounds_toArray, List.set_cons_zero, List.set_cons_succ])
    refine mv_done ?_
    go_upto_region 10 with (fail)
    obtain ⟨W10, eW10, qW10⟩ : ∃ W, W = W6.drew ∧ HB k [.slice a1 X.length e1, .slice a2 Y.length e2, .slice a3 Z.length e3, .slice a4 T.length e4, .int .i64 ma, .int .i64 mg, .int .i64 tk, .int .i64 (F + 1), .int .i64 S, .bool O, .bool Un] w2 W   := ⟨_, rfl, by exact HB.is ((qW6.out.as rfl rfl rfl rfl)) rfl⟩
    rw [← eW10]
    replace eW10 := Lib.hid eW10
    have hW10 := qW10.held
    clear z0 z1 z2 z3 z4 z5 z6 z7 z8 z9 z10 qq0 qq1 qq2 qq3 qq4 qq5 qq6 qq7 qq8 qq9 qq10
    obtain ⟨z0, qq0⟩ := hW10.one 0 rfl
    obtain ⟨z1, qq1⟩ := hW10.one 1 rfl
    obtain ⟨z2, qq2⟩ := hW10.one 2 rfl
    obtain ⟨z3, qq3⟩ := hW10.one 3 rfl
    obtain ⟨z4, qq4⟩ := hW10.one 4 rfl
    obtain ⟨z5, qq5⟩ := hW10.one 5 rfl
    obtain ⟨z6, qq6⟩ := hW10.one 6 rfl
    obtain ⟨z7, qq7⟩ := hW10.one 7 rfl
    obtain ⟨z8, qq8⟩ := hW10.one 8 rfl
    obtain ⟨z9, qq9⟩ := hW10.one 9 rfl
    obtain ⟨z10, qq10⟩ := hW10.one 10 rfl
    clear hW10
    replace qW10 := Lib.hid qW10
    rcases (show (L ≤ v ∧ L ≤ v - mg) ∨ (L ≤ v ∧ v - mg < L) ∨ (v < L ∧ tk ≤ S + 1) ∨ (v < L ∧ S + 1 < tk) by omega) with hd | hd | hd | hd
    · have ib1 : L ≤ v := hd.1
      have ib2 : L ≤ v - mg := hd.2
      have ib3 : (0 : Int) < tk := by omega
      have EU : S' = 0 ∧ U' = false := by
              rw [hS'.out, hU'.out]
              unfold dU dS
              refine ⟨?_, ?_⟩
              · first | rw [if_pos (by omega)] | rw [if_neg (by omega)]
              · first | rw [if_pos (by omega)] | rw [if_neg (by omega), if_pos (by first | (rw [if_pos (by omega)]; omega) | (rw [if_neg (by omega)]; omega))] | rw [if_neg (by omega), if_neg (by first | (rw [if_pos (by omega)]; omega) | (rw [if_neg (by omega)]; omega))]
      replace EU := Lib.hid EU
      clear hd hS' hU'
      go_upto_region 13 with (fail)
      obtain ⟨W13, eW13, qW13⟩ : ∃ W, W = ((W10.setCell ⟨k, 8, none⟩ (.int .i64 (S + 1))).setCell ⟨k, 8, none⟩ (.int .i64 0)) ∧ HB k [.slice a1 X.length e1, .slice a2 Y.length e2, .slice a3 Z.length e3, .slice a4 T.length e4, .int .i64 ma, .int .i64 mg, .int .i64 tk, .int .i64 (F + 1), .int .i64 (0), .bool O, .bool Un] w2 W   := ⟨_, rfl, by exact HB.is (((qW10.out.set 8 (.int .i64 (S + 1)) (by simp)).set 8 (.int .i64 0) (by simp))) rfl⟩
      rw [← eW13]
      replace eW13 := Lib.hid eW13
      have hW13 := qW13.held
      clear z0 z1 z2 z3 z4 z5 z6 z7 z8 z9 z10 qq0 qq1 qq2 qq3 qq4 qq5 qq6 qq7 qq8 qq9 qq10
      obtain ⟨z0, qq0⟩ := hW13.one 0 rfl
      obtain ⟨z1, qq1⟩ := hW13.one 1 rfl
      obtain ⟨z2, qq2⟩ := hW13.one 2 rfl
      obtain ⟨z3, qq3⟩ := hW13.one 3 rfl
      obtain ⟨z4, qq4⟩ := hW13.one 4 rfl
      obtain ⟨z5, qq5⟩ := hW13.one 5 rfl
      obtain ⟨z6, qq6⟩ := hW13.one 6 rfl
      obtain ⟨z7, qq7⟩ := hW13.one 7 rfl
      obtain ⟨z8, qq8⟩ := hW13.one 8 rfl
      obtain ⟨z9, qq9⟩ := hW13.one 9 rfl
      obtain ⟨z10, qq10⟩ := hW13.one 10 rfl
      clear hW13
      replace qW13 := Lib.hid qW13
      refine region_still [] [(.free, 0), (.free, 1), (.free, 2), (.take, 3), (.free, 4), (.free, 5), (.free, 6), (.free, 7), (.take, 8), (.free, 9)] _ (by kernel_rfl) (by kernel_rfl) (by kernel_rfl) (by kernel_rfl) (by decide) rfl (fun _ _ _ _ _ h => h) ?_
      simp only [List.filterMap_cons, List.filterMap_nil, List.getElem?_toArray, List.getElem?_cons_zero, List.getElem?_cons_succ, Option.map_some]
      iterate 3
        first
          | (refine mv_free ?_ (Or.inl ⟨by rfl, ?_⟩) (rfl) ?_
             rotate_left 1
             · intro u
               go_simp
               try simp only [d1]
               try simp only [d2]
               try simp only [d3]
               try simp only [d4]
               try with_reducible rfl
             simp only [Act.put, List.setIfInBounds_toArray, List.set_cons_zero, List.set_cons_succ])
          | (refine mv_free _ (Or.inr ⟨by rfl, rfl⟩) (rfl) ?_
             simp only [Act.put, List.setIfInBounds_toArray, List.set_cons_zero, List.set_cons_succ])
      iterate 1
        first
          | (refine mv_take ?_ (Or.inl ⟨by rfl, ?_⟩) (rfl) ?_
             rotate_left 1
             · intro u hu
               (try dsimp only at hu)
               go_simp
               try with_reducible rfl
             simp only [Act.put, List.setIfInBounds_toArray, List.set_cons_zero, List.set_cons_succ])
          | (refine mv_take _ (Or.inr ⟨by rfl, rfl⟩) (rfl) ?_
             simp only [Act.put, List.setIfInBounds_toArray, List.set_cons_zero, List.set_cons_succ])
      iterate 4
        first
          | (refine mv_free ?_ (Or.inl ⟨by rfl, ?_⟩) (rfl) ?_
             rotate_left 1
             · intro u
               go_simp
               try simp only [d1]
               try simp only [d2]
               try simp only [d3]
               try simp only [d4]
               try with_reducible rfl
             simp only [Act.put, List.setIfInBounds_toArray, List.set_cons_zero, List.set_cons_succ])
          | (refine mv_free _ (Or.inr ⟨by rfl, rfl⟩) (rfl) ?_
             simp only [Act.put, List.setIfInBounds_toArray, List.set_cons_zero, List.set_cons_succ])
      iterate 1
        first
          | (refine mv_take ?_ (Or.inl ⟨by rfl, ?_⟩) (rfl) ?_
             rotate_left 1
             · intro u hu
               (try dsimp only at hu)
               go_simp
               try with_reducible rfl
             simp only [Act.put, List.setIfInBounds_toArray, List.set_cons_zero, List.set_cons_succ])
          | (refine mv_take _ (Or.inr ⟨by rfl, rfl⟩) (rfl) ?_
             simp only [Act.put, List.setIfInBounds_toArray, List.set_cons_zero, List.set_cons_succ])
      iterate 1
        first
          | (refine mv_free ?_ (Or.inl ⟨by rfl, ?_⟩) (rfl) ?_
             rotate_left 1
             · intro u
               go_simp
               try simp only [d1]
               try simp only [d2]
               try simp only [d3]
               try simp only [d4]
               try with_reducible rfl
             simp only [Act.put, List.setIfInBounds_toArray, List.set_cons_zero, List.set_cons_succ])
          | (refine mv_free _ (Or.inr ⟨by rfl, rfl⟩) (rfl) ?_
             simp only [Act.put, List.setIfInBounds_toArray, List.set_cons_zero, List.set_cons_succ])
      refine mv_done ?_
      go_upto_region 17 with (fail)
      obtain ⟨W17, eW17, qW17⟩ : ∃ W, W = (W13.setCell ⟨k, 10, none⟩ (.bool false)).drew ∧ HB k [.slice a1 X.length e1, .slice a2 Y.length e2, .slice a3 Z.length e3, .slice a4 T.length e4, .int .i64 ma, .int .i64 mg, .int .i64 tk, .int .i64 (F + 1), .int .i64 (0), .bool O, .bool false] w2 W   := ⟨_, rfl, by exact HB.is (((qW13.out.set 10 (.bool false) (by simp)).as rfl rfl rfl rfl)) rfl⟩
      rw [← eW17]
      replace eW17 := Lib.hid eW17
      have hW17 := qW17.held
      clear z0 z1 z2 z3 z4 z5 z6 z7 z8 z9 z10 qq0 qq1 qq2 qq3 qq4 qq5 qq6 qq7 qq8 qq9 qq10
      obtain ⟨z0, qq0⟩ := hW17.one 0 rfl
      obtain ⟨z1, qq1⟩ := hW17.one 1 rfl
      obtain ⟨z2, qq2⟩ := hW17.one 2 rfl
      obtain ⟨z3, qq3⟩ := hW17.one 3 rfl
      obtain ⟨z4, qq4⟩ := hW17.one 4 rfl
      obtain ⟨z5, qq5⟩ := hW17.one 5 rfl
      obtain ⟨z6, qq6⟩ := hW17.one 6 rfl
      obtain ⟨z7, qq7⟩ := hW17.one 7 rfl
      obtain ⟨z8, qq8⟩ := hW17.one 8 rfl
      obtain ⟨z9, qq9⟩ := hW17.one 9 rfl
      obtain ⟨z10, qq10⟩ := hW17.one 10 rfl
      clear hW17
      replace qW17 := Lib.hid qW17
      rcases (show M < L ∨ L ≤ M by omega) with hx | hx
      all_goals cases O
      all_goals
        go_wp2
        go_ret
        have fin := qW17.out.fin rfl rfl rfl rfl
        have EO1 := EO.out
        have EU1 := EU.out
        rw [EO1.1, EO1.2, EU1.1, EU1.2]
        refine ⟨ret_int ?_, fin.1, B2.out.trans fin.2⟩
        first | (rw [decide_eq_true hx]; rfl) | (rw [decide_eq_false (show ¬ M < L by omega)]; rfl)
    · have ib1 : L ≤ v := hd.1
      have ib2 : v - mg < L := hd.2
      have ib3 : (0 : Int) < tk := by omega
      have EU : S' = 0 ∧ U' = Un := by
              rw [hS'.out, hU'.out]
              unfold dU dS
              refine ⟨?_, ?_⟩
              · first | rw [if_pos (by omega)] | rw [if_neg (by omega)]
              · first | rw [if_pos (by omega)] | rw [if_neg (by omega), if_pos (by first | (rw [if_pos (by omega)]; omega) | (rw [if_neg (by omega)]; omega))] | rw [if_neg (by omega), if_neg (by first | (rw [if_pos (by omega)]; omega) | (rw [if_neg (by omega)]; omega))]
      replace EU := Lib.hid EU
      clear hd hS' hU'
      go_upto_region 13 with (fail)
      obtain ⟨W13, eW13, qW13⟩ : ∃ W, W = ((W10.setCell ⟨k, 8, none⟩ (.int .i64 (S + 1))).setCell ⟨k, 8, none⟩ (.int .i64 0)) ∧ HB k [.slice a1 X.length e1, .slice a2 Y.length e2, .slice a3 Z.length e3, .slice a4 T.length e4, .int .i64 ma, .int .i64 mg, .int .i64 tk, .int .i64 (F + 1), .int .i64 (0), .bool O, .bool Un] w2 W   := ⟨_, rfl, by exact HB.is (((qW10.out.set 8 (.int .i64 (S + 1)) (by simp)).set 8 (.int .i64 0) (by simp))) rfl⟩
      rw [← eW13]
      replace eW13 := Lib.hid eW13
      have hW13 := qW13.held
      clear z0 z1 z2 z3 z4 z5 z6 z7 z8 z9 z10 qq0 qq1 qq2 qq3 qq4 qq5 qq6 qq7 qq8 qq9 qq10
      obtain ⟨z0, qq0⟩ := hW13.one 0 rfl
      obtain ⟨z1, qq1⟩ := hW13.one 1 rfl
      obtain ⟨z2, qq2⟩ := hW13.one 2 rfl
      obtain ⟨z3, qq3⟩ := hW13.one 3 rfl
      obtain ⟨z4, qq4⟩ := hW13.one 4 rfl
      obtain ⟨z5, qq5⟩ := hW13.one 5 rfl
      obtain ⟨z6, qq6⟩ := hW13.one 6 rfl
      obtain ⟨z7, qq7⟩ := hW13.one 7 rfl
      obtain ⟨z8, qq8⟩ := hW13.one 8 rfl
      obtain ⟨z9, qq9⟩ := hW13.one 9 rfl
      obtain ⟨z10, qq10⟩ := hW13.one 10 rfl
      clear hW13
      replace qW13 := Lib.hid qW13
      refine region_still [] [(.free, 0), (.free, 1), (.free, 2), (.take, 3), (.free, 4), (.free, 5), (.free, 6), (.free, 7), (.take, 8), (.free, 9)] _ (by kernel_rfl) (by kernel_rfl) (by kernel_rfl) (by kernel_rfl) (by decide) rfl (fun _ _ _ _ _ h => h) ?_
      simp only [List.filterMap_cons, List.filterMap_nil, List.getElem?_toArray, List.getElem?_cons_zero, List.getElem?_cons_succ, Option.map_some]
      iterate 3
        first
          | (refine mv_free ?_ (Or.inl ⟨by rfl, ?_⟩) (rfl) ?_
             rotate_left 1
             · intro u
               go_simp
               try simp only [d1]
               try simp only [d2]
               try simp only [d3]
               try simp only [d4]
               try with_reducible rfl
             simp only [Act.put, List.setIfInBounds_toArray, List.set_cons_zero, List.set_cons_succ])
          | (refine mv_free _ (Or.inr ⟨by rfl, rfl⟩) (rfl) ?_
             simp only [Act.put, List.setIfInBounds_toArray, List.set_cons_zero, List.set_cons_succ])
      iterate 1
        first
          | (refine mv_take ?_ (Or.inl ⟨by rfl, ?_⟩) (rfl) ?_
             rotate_left 1
             · intro u hu
               (try dsimp only at hu)
               go_simp
               try with_reducible rfl
             simp only [Act.put, List.setIfInBounds_toArray, List.set_cons_zero, List.set_cons_succ])
          | (refine mv_take _ (Or.inr ⟨by rfl, rfl⟩) (rfl) ?_
             simp only [Act.put, List.setIfInBounds_toArray, List.set_cons_zero, List.set_cons_succ])
      iterate 4
        first
          | (refine mv_free ?_ (Or.inl ⟨by rfl, ?_⟩) (rfl) ?_
             rotate_left 1
             · intro u
               go_simp
               try simp only [d1]
               try simp only [d2]
               try simp only [d3]
               try simp only [d4]
               try with_reducible rfl
             simp only [Act.put, List.setIfInBounds_toArray, List.set_cons_zero, List.set_cons_succ])
          | (refine mv_free _ (Or.inr ⟨by rfl, rfl⟩) (rfl) ?_
             simp only [Act.put, List.setIfInBounds_toArray, List.set_cons_zero, List.set_cons_succ])
      iterate 1
        first
          | (refine mv_take ?_ (Or.inl ⟨by rfl, ?_⟩) (rfl) ?_
             rotate_left 1
             · intro u hu
               (try dsimp only at hu)
               go_simp
               try with_reducible rfl
             simp only [Act.put, List.setIfInBounds_toArray, List.set_cons_zero, List.set_cons_succ])
          | (refine mv_take _ (Or.inr ⟨by rfl, rfl⟩) (rfl) ?_
             simp only [Act.put, List.setIfInBounds_toArray, List.set_cons_zero, List.set_cons_succ])
      iterate 1
        first
          | (refine mv_free ?_ (Or.inl ⟨by rfl, ?_⟩) (rfl) ?_
             rotate_left 1
             · intro u
               go_simp
               try simp only [d1]
               try simp only [d2]
               try simp only [d3]
               try simp only [d4]
               try with_reducible rfl
             simp only [Act.put, List.setIfInBounds_toArray, List.set_cons_zero, List.set_cons_succ])
          | (refine mv_free _ (Or.inr ⟨by rfl, rfl⟩) (rfl) ?_
             simp only [Act.put, List.setIfInBounds_toArray, List.set_cons_zero, List.set_cons_succ])
      refine mv_done ?_
      go_upto_region 17 with (fail)
      obtain ⟨W17, eW17, qW17⟩ : ∃ W, W = W13.drew ∧ HB k [.slice a1 X.length e1, .slice a2 Y.length e2, .slice a3 Z.length e3, .slice a4 T.length e4, .int .i64 ma, .int .i64 mg, .int .i64 tk, .int .i64 (F + 1), .int .i64 (0), .bool O, .bool Un] w2 W   := ⟨_, rfl, by exact HB.is ((qW13.out.as rfl rfl rfl rfl)) rfl⟩
      rw [← eW17]
      replace eW17 := Lib.hid eW17
      have hW17 := qW17.held
      clear z0 z1 z2 z3 z4 z5 z6 z7 z8 z9 z10 qq0 qq1 qq2 qq3 qq4 qq5 qq6 qq7 qq8 qq9 qq10
      obtain ⟨z0, qq0⟩ := hW17.one 0 rfl
      obtain ⟨z1, qq1⟩ := hW17.one 1 rfl
      obtain ⟨z2, qq2⟩ := hW17.one 2 rfl
      obtain ⟨z3, qq3⟩ := hW17.one 3 rfl
      obtain ⟨z4, qq4⟩ := hW17.one 4 rfl
      obtain ⟨z5, qq5⟩ := hW17.one 5 rfl
      obtain ⟨z6, qq6⟩ := hW17.one 6 rfl
      obtain ⟨z7, qq7⟩ := hW17.one 7 rfl
      obtain ⟨z8, qq8⟩ := hW17.one 8 rfl
      obtain ⟨z9, qq9⟩ := hW17.one 9 rfl
      obtain ⟨z10, qq10⟩ := hW17.one 10 rfl
      clear hW17
      replace qW17 := Lib.hid qW17
      rcases (show M < L ∨ L ≤ M by omega) with hx | hx
      all_goals cases O
      all_goals cases Un
      all_goals
        go_wp2
        go_ret
        have fin := qW17.out.fin rfl rfl rfl rfl
        have EO1 := EO.out
        have EU1 := EU.out
        rw [EO1.1, EO1.2, EU1.1, EU1.2]
        refine ⟨ret_int ?_, fin.1, B2.out.trans fin.2⟩
        first | (rw [decide_eq_true hx]; rfl) | (rw [decide_eq_false (show ¬ M < L by omega)]; rfl)
    · have ib1 : v < L := hd.1
      have ib2 : v - mg < L := by omega
      have ib3 : tk ≤ S + 1 := hd.2
      have EU : S' = S + 1 ∧ U' = true := by
              rw [hS'.out, hU'.out]
              unfold dU dS
              refine ⟨?_, ?_⟩
              · first | rw [if_pos (by omega)] | rw [if_neg (by omega)]
              · first | rw [if_pos (by omega)] | rw [if_neg (by omega), if_pos (by first | (rw [if_pos (by omega)]; omega) | (rw [if_neg (by omega)]; omega))] | rw [if_neg (by omega), if_neg (by first | (rw [if_pos (by omega)]; omega) | (rw [if_neg (by omega)]; omega))]
      replace EU := Lib.hid EU
      clear hd hS' hU'
      go_upto_region 13 with (fail)
      obtain ⟨W13, eW13, qW13⟩ : ∃ W, W = (W10.setCell ⟨k, 8, none⟩ (.int .i64 (S + 1))) ∧ HB k [.slice a1 X.length e1, .slice a2 Y.length e2, .slice a3 Z.length e3, .slice a4 T.length e4, .int .i64 ma, .int .i64 mg, .int .i64 tk, .int .i64 (F + 1), .int .i64 (S + 1), .bool O, .bool Un] w2 W   := ⟨_, rfl, by exact HB.is ((qW10.out.set 8 (.int .i64 (S + 1)) (by simp))) rfl⟩
      rw [← eW13]
      replace eW13 := Lib.hid eW13
      have hW13 := qW13.held
      clear z0 z1 z2 z3 z4 z5 z6 z7 z8 z9 z10 qq0 qq1 qq2 qq3 qq4 qq5 qq6 qq7 qq8 qq9 qq10
      obtain ⟨z0, qq0⟩ := hW13.one 0 rfl
      obtain ⟨z1, qq1⟩ := hW13.one 1 rfl
      obtain ⟨z2, qq2⟩ := hW13.one 2 rfl
      obtain ⟨z3, qq3⟩ := hW13.one 3 rfl
      obtain ⟨z4, qq4⟩ := hW13.one 4 rfl
      obtain ⟨z5, qq5⟩ := hW13.one 5 rfl
      obtain ⟨z6, qq6⟩ := hW13.one 6 rfl
      obtain ⟨z7, qq7⟩ := hW13.one 7 rfl
      obtain ⟨z8, qq8⟩ := hW13.one 8 rfl
      obtain ⟨z9, qq9⟩ := hW13.one 9 rfl
      obtain ⟨z10, qq10⟩ := hW13.one 10 rfl
      clear hW13
      replace qW13 := Lib.hid qW13
      refine region_still [] [(.free, 0), (.free, 1), (.free, 2), (.take, 3), (.free, 4), (.free, 5), (.free, 6), (.free, 7), (.take, 8), (.free, 9)] _ (by kernel_rfl) (by kernel_rfl) (by kernel_rfl) (by kernel_rfl) (by decide) rfl (fun _ _ _ _ _ h => h) ?_
      simp only [List.filterMap_cons, List.filterMap_nil, List.getElem?_toArray, List.getElem?_cons_zero, List.getElem?_cons_succ, Option.map_some]
      iterate 3
        first
          | (refine mv_free ?_ (Or.inl ⟨by rfl, ?_⟩) (rfl) ?_
             rotate_left 1
             · intro u
               go_simp
               try simp only [d1]
               try simp only [d2]
               try simp only [d3]
               try simp only [d4]
               try with_reducible rfl
             simp only [Act.put, List.setIfInBounds_toArray, List.set_cons_zero, List.set_cons_succ])
          | (refine mv_free _ (Or.inr ⟨by rfl, rfl⟩) (rfl) ?_
             simp only [Act.put, List.setIfInBounds_toArray, List.set_cons_zero, List.set_cons_succ])
      iterate 1
        first
          | (refine mv_take ?_ (Or.inl ⟨by rfl, ?_⟩) (rfl) ?_
             rotate_left 1
             · intro u hu
               (try dsimp only at hu)
               go_simp
               try with_reducible rfl
             simp only [Act.put, List.setIfInBounds_toArray, List.set_cons_zero, List.set_cons_succ])
          | (refine mv_take _ (Or.inr ⟨by rfl, rfl⟩) (rfl) ?_
             simp only [Act.put, List.setIfInBounds_toArray, List.set_cons_zero, List.set_cons_succ])
      iterate 4
        first
          | (refine mv_free ?_ (Or.inl ⟨by rfl, ?_⟩) (rfl) ?_
             rotate_left 1
             · intro u
               go_simp
               try simp only [d1]
               try simp only [d2]
               try simp only [d3]
               try simp only [d4]
               try with_reducible rfl
             simp only [Act.put, List.setIfInBounds_toArray, List.set_cons_zero, List.set_cons_succ])
          | (refine mv_free _ (Or.inr ⟨by rfl, rfl⟩) (rfl) ?_
             simp only [Act.put, List.setIfInBounds_toArray, List.set_cons_zero, List.set_cons_succ])
      iterate 1
        first
          | (refine mv_take ?_ (Or.inl ⟨by rfl, ?_⟩) (rfl) ?_
             rotate_left 1
             · intro u hu
               (try dsimp only at hu)
               go_simp
               try with_reducible rfl
             simp only [Act.put, List.setIfInBounds_toArray, List.set_cons_zero, List.set_cons_succ])
          | (refine mv_take _ (Or.inr ⟨by rfl, rfl⟩) (rfl) ?_
             simp only [Act.put, List.setIfInBounds_toArray, List.set_cons_zero, List.set_cons_succ])
      iterate 1
        first
          | (refine mv_free ?_ (Or.inl ⟨by rfl, ?_⟩) (rfl) ?_
             rotate_left 1
             · intro u
               go_simp
               try simp only [d1]
               try simp only [d2]
               try simp only [d3]
               try simp only [d4]
               try with_reducible rfl
             simp only [Act.put, List.setIfInBounds_toArray, List.set_cons_zero, List.set_cons_succ])
          | (refine mv_free _ (Or.inr ⟨by rfl, rfl⟩) (rfl) ?_
             simp only [Act.put, List.setIfInBounds_toArray, List.set_cons_zero, List.set_cons_succ])
      refine mv_done ?_
      go_upto_region 17 with (fail)
      obtain ⟨W17, eW17, qW17⟩ : ∃ W, W = (W13.setCell ⟨k, 10, none⟩ (.bool true)).drew ∧ HB k [.slice a1 X.length e1, .slice a2 Y.length e2, .slice a3 Z.length e3, .slice a4 T.length e4, .int .i64 ma, .int .i64 mg, .int .i64 tk, .int .i64 (F + 1), .int .i64 (S + 1), .bool O, .bool true] w2 W   := ⟨_, rfl, by exact HB.is (((qW13.out.set 10 (.bool true) (by simp)).as rfl rfl rfl rfl)) rfl⟩
      rw [← eW17]
      replace eW17 := Lib.hid eW17
      have hW17 := qW17.held
      clear z0 z1 z2 z3 z4 z5 z6 z7 z8 z9 z10 qq0 qq1 qq2 qq3 qq4 qq5 qq6 qq7 qq8 qq9 qq10
      obtain ⟨z0, qq0⟩ := hW17.one 0 rfl
      obtain ⟨z1, qq1⟩ := hW17.one 1 rfl
      obtain ⟨z2, qq2⟩ := hW17.one 2 rfl
      obtain ⟨z3, qq3⟩ := hW17.one 3 rfl
      obtain ⟨z4, qq4⟩ := hW17.one 4 rfl
      obtain ⟨z5, qq5⟩ := hW17.one 5 rfl
      obtain ⟨z6, qq6⟩ := hW17.one 6 rfl
      obtain ⟨z7, qq7⟩ := hW17.one 7 rfl
      obtain ⟨z8, qq8⟩ := hW17.one 8 rfl
      obtain ⟨z9, qq9⟩ := hW17.one 9 rfl
      obtain ⟨z10, qq10⟩ := hW17.one 10 rfl
      clear hW17
      replace qW17 := Lib.hid qW17
      have hx : M < L := by omega
      all_goals cases O
      all_goals
        go_wp2
        go_ret
        have fin := qW17.out.fin rfl rfl rfl rfl
        have EO1 := EO.out
        have EU1 := EU.out
        rw [EO1.1, EO1.2, EU1.1, EU1.2]
        refine ⟨ret_int ?_, fin.1, B2.out.trans fin.2⟩
        first | (rw [decide_eq_true hx]; rfl) | (rw [decide_eq_false (show ¬ M < L by omega)]; rfl)
    · have ib1 : v < L := hd.1
      have ib2 : v - mg < L := by omega
      have ib3 : S + 1 < tk := hd.2
      have EU : S' = S + 1 ∧ U' = Un := by
              rw [hS'.out, hU'.out]
              unfold dU dS
              refine ⟨?_, ?_⟩
              · first | rw [if_pos (by omega)] | rw [if_neg (by omega)]
              · first | rw [if_pos (by omega)] | rw [if_neg (by omega), if_pos (by first | (rw [if_pos (by omega)]; omega) | (rw [if_neg (by omega)]; omega))] | rw [if_neg (by omega), if_neg (by first | (rw [if_pos (by omega)]; omega) | (rw [if_neg (by omega)]; omega))]
      replace EU := Lib.hid EU
      clear hd hS' hU'
      go_upto_region 13 with (fail)
      obtain ⟨W13, eW13, qW13⟩ : ∃ W, W = (W10.setCell ⟨k, 8, none⟩ (.int .i64 (S + 1))) ∧ HB k [.slice a1 X.length e1, .slice a2 Y.length e2, .slice a3 Z.length e3, .slice a4 T.length e4, .int .i64 ma, .int .i64 mg, .int .i64 tk, .int .i64 (F + 1), .int .i64 (S + 1), .bool O, .bool Un] w2 W   := ⟨_, rfl, by exact HB.is ((qW10.out.set 8 (.int .i64 (S + 1)) (by simp))) rfl⟩
      rw [← eW13]
      replace eW13 := Lib.hid eW13
      have hW13 := qW13.held
      clear z0 z1 z2 z3 z4 z5 z6 z7 z8 z9 z10 qq0 qq1 qq2 qq3 qq4 qq5 qq6 qq7 qq8 qq9 qq10
      obtain ⟨z0, qq0⟩ := hW13.one 0 rfl
      obtain ⟨z1, qq1⟩ := hW13.one 1 rfl
      obtain ⟨z2, qq2⟩ := hW13.one 2 rfl
      obtain ⟨z3, qq3⟩ := hW13.one 3 rfl
      obtain ⟨z4, qq4⟩ := hW13.one 4 rfl
      obtain ⟨z5, qq5⟩ := hW13.one 5 rfl
      obtain ⟨z6, qq6⟩ := hW13.one 6 rfl
      obtain ⟨z7, qq7⟩ := hW13.one 7 rfl
      obtain ⟨z8, qq8⟩ := hW13.one 8 rfl
      obtain ⟨z9, qq9⟩ := hW13.one 9 rfl
      obtain ⟨z10, qq10⟩ := hW13.one 10 rfl
      clear hW13
      replace qW13 := Lib.hid qW13
      refine region_still [] [(.free, 0), (.free, 1), (.free, 2), (.take, 3), (.free, 4), (.free, 5), (.free, 6), (.free, 7), (.take, 8), (.free, 9)] _ (by kernel_rfl) (by kernel_rfl) (by kernel_rfl) (by kernel_rfl) (by decide) rfl (fun _ _ _ _ _ h => h) ?_
      simp only [List.filterMap_cons, List.filterMap_nil, List.getElem?_toArray, List.getElem?_cons_zero, List.getElem?_cons_succ, Option.map_some]
      iterate 3
        first
          | (refine mv_free ?_ (Or.inl ⟨by rfl, ?_⟩) (rfl) ?_
             rotate_left 1
             · intro u
               go_simp
               try simp only [d1]
               try simp only [d2]
               try simp only [d3]
               try simp only [d4]
               try with_reducible rfl
             simp only [Act.put, List.setIfInBounds_toArray, List.set_cons_zero, List.set_cons_succ])
          | (refine mv_free _ (Or.inr ⟨by rfl, rfl⟩) (rfl) ?_
             simp only [Act.put, List.setIfInBounds_toArray, List.set_cons_zero, List.set_cons_succ])
      iterate 1
        first
          | (refine mv_take ?_ (Or.inl ⟨by rfl, ?_⟩) (rfl) ?_
             rotate_left 1
             · intro u hu
               (try dsimp only at hu)
               go_simp
               try with_reducible rfl
             simp only [Act.put, List.setIfInBounds_toArray, List.set_cons_zero, List.set_cons_succ])
          | (refine mv_take _ (Or.inr ⟨by rfl, rfl⟩) (rfl) ?_
             simp only [Act.put, List.setIfInBounds_toArray, List.set_cons_zero, List.set_cons_succ])
      iterate 4
        first
          | (refine mv_free ?_ (Or.inl ⟨by rfl, ?_⟩) (rfl) ?_
             rotate_left 1
             · intro u
               go_simp
               try simp only [d1]
               try simp only [d2]
               try simp only [d3]
               try simp only [d4]
               try with_reducible rfl
             simp only [Act.put, List.setIfInBounds_toArray, List.set_cons_zero, List.set_cons_succ])
          | (refine mv_free _ (Or.inr ⟨by rfl, rfl⟩) (rfl) ?_
             simp only [Act.put, List.setIfInBounds_toArray, List.set_cons_zero, List.set_cons_succ])
      iterate 1
        first
          | (refine mv_take ?_ (Or.inl ⟨by rfl, ?_⟩) (rfl) ?_
             rotate_left 1
             · intro u hu
               (try dsimp only at hu)
               go_simp
               try with_reducible rfl
             simp only [Act.put, List.setIfInBounds_toArray, List.set_cons_zero, List.set_cons_succ])
          | (refine mv_take _ (Or.inr ⟨by rfl, rfl⟩) (rfl) ?_
             simp only [Act.put, List.setIfInBounds_toArray, List.set_cons_zero, List.set_cons_succ])
      iterate 1
        first
          | (refine mv_free ?_ (Or.inl ⟨by rfl, ?_⟩) (rfl) ?_
             rotate_left 1
             · intro u
               go_simp
               try simp only [d1]
               try simp only [d2]
               try simp only [d3]
               try simp only [d4]
               try with_reducible rfl
             simp only [Act.put, List.setIfInBounds_toArray, List.set_cons_zero, List.set_cons_succ])
          | (refine mv_free _ (Or.inr ⟨by rfl, rfl⟩) (rfl) ?_
             simp only [Act.put, List.setIfInBounds_toArray, List.set_cons_zero, List.set_cons_succ])
      refine mv_done ?_
      go_upto_region 17 with (fail)
      obtain ⟨W17, eW17, qW17⟩ : ∃ W, W = W13.drew ∧ HB k [.slice a1 X.length e1, .slice a2 Y.length e2, .slice a3 Z.length e3, .slice a4 T.length e4, .int .i64 ma, .int .i64 mg, .int .i64 tk, .int .i64 (F + 1), .int .i64 (S + 1), .bool O, .bool Un] w2 W   := ⟨_, rfl, by exact HB.is ((qW13.out.as rfl rfl rfl rfl)) rfl⟩
      rw [← eW17]
      replace eW17 := Lib.hid eW17
      have hW17 := qW17.held
      clear z0 z1 z2 z3 z4 z5 z6 z7 z8 z9 z10 qq0 qq1 qq2 qq3 qq4 qq5 qq6 qq7 qq8 qq9 qq10
      obtain ⟨z0, qq0⟩ := hW17.one 0 rfl
      obtain ⟨z1, qq1⟩ := hW17.one 1 rfl
      obtain ⟨z2, qq2⟩ := hW17.one 2 rfl
      obtain ⟨z3, qq3⟩ := hW17.one 3 rfl
      obtain ⟨z4, qq4⟩ := hW17.one 4 rfl
      obtain ⟨z5, qq5⟩ := hW17.one 5 rfl
      obtain ⟨z6, qq6⟩ := hW17.one 6 rfl
      obtain ⟨z7, qq7⟩ := hW17.one 7 rfl
      obtain ⟨z8, qq8⟩ := hW17.one 8 rfl
      obtain ⟨z9, qq9⟩ := hW17.one 9 rfl
      obtain ⟨z10, qq10⟩ := hW17.one 10 rfl
      clear hW17
      replace qW17 := Lib.hid qW17
      have hx : M < L := by omega
      all_goals cases O
      all_goals cases Un
      all_goals
        go_wp2
        go_ret
        have fin := qW17.out.fin rfl rfl rfl rfl
        have EO1 := EO.out
        have EU1 := EU.out
        rw [EO1.1, EO1.2, EU1.1, EU1.2]
        refine ⟨ret_int ?_, fin.1, B2.out.trans fin.2⟩
        first | (rw [decide_eq_true hx]; rfl) | (rw [decide_eq_false (show ¬ M < L by omega)]; rfl)
end Go.Proofs.Ytnfbfggkbpobiaa
